import PyProof.Rows.All
import Wide.All
import OpenK.AllK
import Wide.FinOn
import HandS.ForMost
import HandS.Wide
import HandS.WideMore
import HandS.IsInst
import HandS.Zip
import HandS.TupAny
import HandS.Conv
import HandS.Exc
import KE.KExcInit
import HandS.ExcInit
import HandS.ExcField
import HandS.TryOnly
import HandS.ExcOwn
import HandS.WordsExc
import HandS.Flow
import HandS.TupMul
import HandS.ExcIs
import HandS.ExcValue
import HandS.TryMany
import HandS.MakeKw
import PySem.Challenge.RW_placehues_k00_errors
set_option Elab.async false
set_option linter.all false
set_option maxRecDepth 100000
set_option maxHeartbeats 4000000
namespace Ph
open PySem PySem.Spec PyProof.Rows L2

/-- may be put aside: nothing else leans on it -/
def Aside : HO → Prop
  | .lst _ => True
  | .dK _ => True
  | _ => False
def hide (H : Hp) (o : List Addr) : Hp := fun a => if a ∈ o then none else H a
def back (H : Hp) (o : List Addr) (G : Hp) : Hp := fun a => if a ∈ o then H a else G a
theorem hide_in {H : Hp} {o : List Addr} {a : Addr} (h : a ∈ o) : hide H o a = none := if_pos h
theorem hide_out {H : Hp} {o : List Addr} {a : Addr} (h : a ∉ o) : hide H o a = H a := if_neg h
theorem back_in {H G : Hp} {o : List Addr} {a : Addr} (h : a ∈ o) : back H o G a = H a := if_pos h
theorem back_out {H G : Hp} {o : List Addr} {a : Addr} (h : a ∉ o) : back H o G a = G a := if_neg h
def Owned (H : Hp) (o : List Addr) : Prop := ∀ a ∈ o, ∃ x, H a = some x ∧ Aside x
theorem hide_some {H : Hp} {o : List Addr} {a : Addr} {x : HO} (h : hide H o a = some x) : a ∉ o ∧ H a = some x := by
  by_cases c : a ∈ o
  · rw [hide_in c] at h
    cases h
  · rw [hide_out c] at h
    exact ⟨c, h⟩
theorem owned_ne {H : Hp} {o : List Addr} (W : Owned H o) {a : Addr} {x : HO} (h : H a = some x) (n : ¬ Aside x) : a ∉ o := fun c => by
  obtain ⟨y, e, q⟩ := W a c
  rw [h] at e
  cases e
  exact n q
/-- a promise, with owned objects put aside meanwhile -/
def spHide (sp : Sp) : Sp := fun vs H Q E => ∃ o, Owned H o ∧ sp vs (hide H o) (fun v G => (∀ a ∈ o, G a = none) → Q v (back H o G)) E
section
variable {P : Program} {w : World} {K : PySem.W.Frag} {mg : Str → Option Value} {base : Heap}
theorem fn_hide {k : Nat} {f : Addr} {fd : FuncData} {ps : List Str} {sp : Sp} (F : FnOk P w K mg base CX0 k f fd ps sp) : FnOk P w K mg base CX0 k f fd ps (spHide sp) := by
  refine ⟨fun vs H Q E ⟨o, _, h⟩ => F.len _ _ _ _ h, fun A outer s H args us vs Q E hr e0 hb hv h => ?_⟩
  obtain ⟨o, W, h⟩ := h
  have nf : ∀ b ∈ o, b ∉ frs outer := fun b hb hf => by
    obtain ⟨x, e, _⟩ := W b hb
    rw [e0.frf b hf] at e
    cases e
  have toNone : ∀ {b : Addr}, H b = none → hide H o b = none := fun {b} n => by
    by_cases c : b ∈ o
    · exact hide_in c
    · rw [hide_out c]
      exact n
  have noTup : ∀ {b : Addr} {xs : List V}, H b = some (.tup xs) → b ∉ o := fun {b xs} e => owned_ne W e fun z => z
  have noOwn : ∀ {b c : Addr}, H b = some (.own c) → b ∉ o := fun {b c} e => owned_ne W e fun z => z
  have hok : HOk P w (hide H o) s.heap := fun a x e => by
    obtain ⟨c, e⟩ := hide_some e
    refine (e0.hok a x e).stay (fun b u _ q => q) (fun b q => ?_) fun b xs q => ?_
    · rw [hide_out (noOwn q)]
      exact q
    · rw [hide_out (noTup q)]
      exact q
  have e1 : Env0 P w K mg base A outer s (hide H o) :=
    ⟨e0.frames, e0.mod, fun b x e => ⟨(e0.bs b x e).1, toNone (e0.bs b x e).2⟩, e0.bsz, e0.funs, fun b hb => toNone (e0.frf b hb), hok, e0.bare⟩
  refine codeAny_mono (F.run A outer s (hide H o) args us vs _ E hr e1 hb hv h) fun r s' q => ?_
  cases r with
  | error e => exact q
  | ok fl =>
    cases fl with
    | next => exact q
    | brk => exact q
    | cont => exact q
    | ret u =>
      obtain ⟨v, G, os, bare, un, hk, rv, q⟩ := q
      have gone : ∀ a ∈ o, G a = none := fun a ha => by
        obtain ⟨x, e, _⟩ := W a ha
        obtain ⟨ob, hob⟩ : ∃ ob, s.heap.get? a = some ob := by
          have lt := e0.hok.lt e
          cases z : s.heap.get? a with
          | some ob => exact ⟨ob, rfl⟩
          | none =>
            have := e0.hok a x e
            have z2 : ∃ ob, s.heap.get? a = some ob := by
              obtain ⟨y, ey, ay⟩ := W a ha
              rw [e] at ey
              cases ey
              cases x with
              | lst xs => obtain ⟨_, _, _, _, e⟩ := this; exact ⟨_, e⟩
              | dK kvs => obtain ⟨_, _, _, _, o, _, _, e, _⟩ := this; exact ⟨_, e⟩
              | _ => exact ay.elim
            rw [z] at z2
            obtain ⟨ob, z2⟩ := z2
            cases z2
        exact un.free a ob hob (hide_in ha) (by simp)
      have same : ∀ a ∈ o, ∀ ob, s.heap.get? a = some ob → s'.heap.get? a = some ob := fun a ha ob e => un.keep a ob e (hide_in ha) (nf a ha) (by simp)
      refine ⟨v, back H o G, os, bare, ⟨fun b ob e n hb hx => un.keep b ob e (toNone n) hb hx, fun b ob e n hb hx => un.slot b ob e (toNone n) hb hx, fun b ob e n hx => ?_, un.there, fun b xs e => ?_, fun b ob x e => ?_, fun b ts e => ?_⟩, fun a x e => ?_, rv, q gone⟩
      · have c : b ∉ o := fun c => by
          obtain ⟨x, e', _⟩ := W b c
          rw [n] at e'
          cases e'
        rw [back_out c]
        exact un.free b ob e (toNone n) hx
      · rw [back_out (noTup e)]
        exact un.tups b xs (by rw [hide_out (noTup e)]; exact e)
      · have c : b ∉ o := owned_ne W e fun z => z
        rw [back_out c]
        exact un.frzs b ob x (by rw [hide_out c]; exact e)
      · have c : b ∉ o := owned_ne W e fun z => z
        rw [back_out c]
        exact un.tbls b ts (by rw [hide_out c]; exact e)
      · by_cases c : a ∈ o
        · rw [back_in c] at e
          obtain ⟨y, ey, ay⟩ := W a c
          rw [e] at ey
          cases ey
          have z := e0.hok a x e
          cases x with
          | lst xs =>
            obtain ⟨z1, its, n, rr, e2⟩ := z
            exact ⟨z1, its, n, rr, same a c _ e2⟩
          | dK kvs =>
            obtain ⟨z1, z2, vs', kv, ob, es, ep, e2, zz⟩ := z
            exact ⟨z1, z2, vs', kv, ob, es, ep, same a c _ e2, zz⟩
          | _ => exact ay.elim
        · rw [back_out c] at e
          refine (hk a x e).stay (fun b u _ q => q) (fun b q => ?_) fun b xs q => ?_
          · have c2 : b ∉ o := fun c2 => by
              rw [gone b c2] at q
              cases q
            rw [back_out c2]
            exact q
          · have c2 : b ∉ o := fun c2 => by
              rw [gone b c2] at q
              cases q
            rw [back_out c2]
            exact q
end
end Ph

namespace Ph
open PySem PySem.Spec PyProof.Rows L2

/-! ### data in a heap -/
abbrev Ex (H H' : Hp) : Prop := Same H H'
mutual
inductive DD (K : PySem.W.Frag) (H : Hp) : V → PyData → Prop
  | non : DD K H .non .none
  | bl (b : Bool) : DD K H (.bl b) (.bool b)
  | int (i : Int) : DD K H (.int i) (.int i)
  | str (x : Str) : DD K H (.str x) (.str x)
  | lst {a : Addr} {xs : List V} {ds : List PyData} : H a = some (.lst xs) → DDs K H xs ds → DD K H (.ref a) (.list ds)
  | tup {a : Addr} {xs : List V} {ds : List PyData} : SqT K H a xs → DDs K H xs ds → DD K H (.ref a) (.tuple ds)
  | dct {a : Addr} {kvs : List (Key × V)} {ms : List (PyData × PyData)} : H a = some (.dK kvs) → DKs K H kvs ms → DD K H (.ref a) (.dict ms)
inductive DDs (K : PySem.W.Frag) (H : Hp) : List V → List PyData → Prop
  | nil : DDs K H [] []
  | cons {v : V} {vs : List V} {d : PyData} {ds : List PyData} : DD K H v d → DDs K H vs ds → DDs K H (v :: vs) (d :: ds)
inductive DKs (K : PySem.W.Frag) (H : Hp) : List (Key × V) → List (PyData × PyData) → Prop
  | nil : DKs K H [] []
  | cons {k : Int} {v : V} {kvs : List (Key × V)} {d : PyData} {ms : List (PyData × PyData)} : DD K H v d → DKs K H kvs ms → DKs K H ((.inl k, v) :: kvs) ((.int k, d) :: ms)
end
theorem ex_sqT {K : PySem.W.Frag} {H H' : Hp} {a : Addr} {xs : List V} (e : Ex H H') (h : SqT K H a xs) : SqT K H' a xs := by
  rcases h with (h | ⟨o, h⟩) | h
  · exact .inl (.inl (e _ _ h))
  · exact .inl (.inr ⟨o, e _ _ h⟩)
  · exact .inr h
section
variable {K : PySem.W.Frag} {H H' : Hp}
mutual
theorem DD.mono (e : Ex H H') : ∀ {v : V} {d : PyData}, DD K H v d → DD K H' v d
  | _, _, .non => .non
  | _, _, .bl b => .bl b
  | _, _, .int i => .int i
  | _, _, .str x => .str x
  | _, _, .lst h t => .lst (e _ _ h) (DDs.mono e t)
  | _, _, .tup h t => .tup (ex_sqT e h) (DDs.mono e t)
  | _, _, .dct h t => .dct (e _ _ h) (DKs.mono e t)
theorem DDs.mono (e : Ex H H') : ∀ {vs : List V} {ds : List PyData}, DDs K H vs ds → DDs K H' vs ds
  | _, _, .nil => .nil
  | _, _, .cons h t => .cons (DD.mono e h) (DDs.mono e t)
theorem DKs.mono (e : Ex H H') : ∀ {kvs : List (Key × V)} {ms : List (PyData × PyData)}, DKs K H kvs ms → DKs K H' kvs ms
  | _, _, .nil => .nil
  | _, _, .cons h t => .cons (DD.mono e h) (DKs.mono e t)
end
mutual
theorem DD.dp : ∀ {v : V} {d : PyData}, d.canLay0 = true → DD K H v d → Dp K H v d
  | _, _, _, .non => .non
  | _, _, _, .bl b => .bl b
  | _, _, _, .int i => .int i
  | _, _, _, .str x => .str x
  | _, _, c, .lst h t => .lst (SqL.of h) (DDs.dp (by simpa only [PyData.canLay0] using c) t)
  | _, _, c, .tup h t => .tup h (DDs.dp (by simpa only [PyData.canLay0] using c) t)
  | _, _, c, .dct h t => by simp [PyData.canLay0] at c
theorem DDs.dp : ∀ {vs : List V} {ds : List PyData}, PyData.canLayAll0 ds = true → DDs K H vs ds → DpAll K H vs ds
  | _, _, _, .nil => .nil
  | _, _, c, .cons h t => by
    simp only [PyData.canLayAll0, Bool.and_eq_true] at c
    exact .cons (DD.dp c.1 h) (DDs.dp c.2 t)
end
theorem dd_dct {v : V} {ms : List (PyData × PyData)} (h : DD K H v (.dict ms)) : ∃ a kvs, v = .ref a ∧ H a = some (.dK kvs) ∧ DKs K H kvs ms := by
  cases h with
  | dct h t => exact ⟨_, _, rfl, h, t⟩
theorem DDs.length : ∀ {vs : List V} {ds : List PyData}, DDs K H vs ds → vs.length = ds.length
  | _, _, .nil => rfl
  | _, _, .cons _ t => by rw [List.length_cons, List.length_cons, DDs.length t]
theorem DDs.get : ∀ {vs : List V} {ds : List PyData} {i : Nat} {v : V} {d : PyData}, DDs K H vs ds → vs[i]? = some v → ds[i]? = some d → DD K H v d
  | _, _, i, v, d, .nil, h, _ => by simp at h
  | _, _, 0, v, d, .cons h t, e, e2 => by
    have e := Option.some.inj e
    have e2 := Option.some.inj e2
    subst e e2
    exact h
  | _, _, i + 1, v, d, .cons h t, e, e2 => DDs.get t (i := i) (by simpa using e) (by simpa using e2)
theorem DDs.at : ∀ {vs : List V} {ds : List PyData} {i : Nat} {d : PyData}, DDs K H vs ds → ds[i]? = some d → ∃ v, vs[i]? = some v ∧ DD K H v d := fun {vs ds i d} h e => by
  have hl := h.length
  have hi : i < ds.length := (List.getElem?_eq_some_iff.mp e).1
  have e3 : vs[i]? = some (vs[i]'(by omega)) := List.getElem?_eq_getElem (by omega)
  exact ⟨_, e3, h.get e3 e⟩
theorem DDs.at' : ∀ {vs : List V} {ds : List PyData} {i : Nat} {v : V}, DDs K H vs ds → vs[i]? = some v → ∃ d, ds[i]? = some d ∧ DD K H v d := fun {vs ds i v} h e => by
  have hl := h.length
  have hi : i < vs.length := (List.getElem?_eq_some_iff.mp e).1
  have e3 : ds[i]? = some (ds[i]'(by omega)) := List.getElem?_eq_getElem (by omega)
  exact ⟨_, e3, h.get e e3⟩
theorem DDs.append : ∀ {vs us : List V} {ds es : List PyData}, DDs K H vs ds → DDs K H us es → DDs K H (vs ++ us) (ds ++ es)
  | _, _, _, _, .nil, t => t
  | _, _, _, _, .cons h r, t => .cons h (DDs.append r t)
theorem DDs.take : ∀ {vs : List V} {ds : List PyData} (n : Nat), DDs K H vs ds → DDs K H (vs.take n) (ds.take n)
  | _, _, 0, _ => .nil
  | _, _, n + 1, .nil => .nil
  | _, _, n + 1, .cons h t => .cons h (DDs.take n t)
theorem DDs.drop : ∀ {vs : List V} {ds : List PyData} (n : Nat), DDs K H vs ds → DDs K H (vs.drop n) (ds.drop n)
  | _, _, 0, t => t
  | _, _, n + 1, .nil => .nil
  | _, _, n + 1, .cons h t => DDs.drop n t
theorem DDs.set {v : V} {d : PyData} (h : DD K H v d) : ∀ {vs : List V} {ds : List PyData} (i : Nat), DDs K H vs ds → DDs K H (vs.set i v) (ds.set i d)
  | _, _, _, .nil => .nil
  | _, _, 0, .cons _ t => .cons h t
  | _, _, i + 1, .cons q t => .cons q (DDs.set h i t)
theorem dd_tup {v : V} {ds : List PyData} (h : DD K H v (.tuple ds)) : ∃ a xs, v = .ref a ∧ SqT K H a xs ∧ DDs K H xs ds := by
  cases h with
  | tup h t => exact ⟨_, _, rfl, h, t⟩
theorem dd_lst {v : V} {ds : List PyData} (h : DD K H v (.list ds)) : ∃ a xs, v = .ref a ∧ H a = some (.lst xs) ∧ DDs K H xs ds := by
  cases h with
  | lst h t => exact ⟨_, _, rfl, h, t⟩
theorem dd_int {v : V} {i : Int} (h : DD K H v (.int i)) : v = .int i := by cases h; rfl
theorem dd_bool {v : V} {b : Bool} (h : DD K H v (.bool b)) : v = .bl b := by cases h; rfl
theorem dd_str {v : V} {x : Str} (h : DD K H v (.str x)) : v = .str x := by cases h; rfl
theorem dd_none {v : V} (h : DD K H v .none) : v = .non := by cases h; rfl
theorem dds_ints {ns : List Int} : ∀ {vs : List V}, DDs K H vs (ns.map PyData.int) → vs = ns.map V.int := by
  induction ns with
  | nil => intro vs h; cases h; rfl
  | cons n ns ih =>
    intro vs h
    cases h with
    | cons h t =>
      rw [dd_int h, ih t]
      rfl
theorem dds_of_ints : ∀ (ns : List Int), DDs K H (ns.map V.int) (ns.map PyData.int)
  | [] => .nil
  | n :: ns => .cons (.int n) (dds_of_ints ns)
theorem dds_bools {ns : List Bool} : ∀ {vs : List V}, DDs K H vs (ns.map PyData.bool) → vs = ns.map V.bl := by
  induction ns with
  | nil => intro vs h; cases h; rfl
  | cons n ns ih =>
    intro vs h
    cases h with
    | cons h t =>
      rw [dd_bool h, ih t]
      rfl
end

/-! ### the slots, as data -/
inductive En (K : PySem.W.Frag) (G : Hp) : List (Option V) → List (Option PyData) → Prop
  | nil : En K G [] []
  | no {x : Option V} {σ : List (Option V)} {ds : List (Option PyData)} : En K G σ ds → En K G (x :: σ) (none :: ds)
  | yes {v : V} {d : PyData} {σ : List (Option V)} {ds : List (Option PyData)} : DD K G v d → En K G σ ds → En K G (some v :: σ) (some d :: ds)
section
variable {K : PySem.W.Frag} {G G' : Hp}
theorem En.mono (e : Ex G G') : ∀ {σ : List (Option V)} {ds : List (Option PyData)}, En K G σ ds → En K G' σ ds
  | _, _, .nil => .nil
  | _, _, .no t => .no (En.mono e t)
  | _, _, .yes h t => .yes (h.mono e) (En.mono e t)
theorem En.get : ∀ {σ : List (Option V)} {ds : List (Option PyData)} {i : Nat} {d : PyData}, En K G σ ds → ds[i]? = some (some d) → ∃ v, σ[i]? = some (some v) ∧ DD K G v d
  | _, _, i, d, .nil, h => by simp at h
  | _, _, 0, d, .no t, h => by simp at h
  | _, _, 0, d, .yes (v := v) q t, h => by
    have h := Option.some.inj (Option.some.inj h)
    subst h
    exact ⟨v, rfl, q⟩
  | _, _, i + 1, d, .no t, h => by
    obtain ⟨v, e, q⟩ := En.get t (i := i) (d := d) (by simpa using h)
    exact ⟨v, by simpa using e, q⟩
  | _, _, i + 1, d, .yes _ t, h => by
    obtain ⟨v, e, q⟩ := En.get t (i := i) (d := d) (by simpa using h)
    exact ⟨v, by simpa using e, q⟩
theorem En.set {v : V} {d : PyData} (h : DD K G v d) : ∀ {σ : List (Option V)} {ds : List (Option PyData)} (i : Nat), En K G σ ds → En K G (σ.set i (some v)) (ds.set i (some d))
  | _, _, _, .nil => .nil
  | _, _, 0, .no t => .yes h t
  | _, _, 0, .yes _ t => .yes h t
  | _, _, i + 1, .no t => .no (En.set h i t)
  | _, _, i + 1, .yes q t => .yes q (En.set h i t)
theorem En.unset {x : Option V} : ∀ {σ : List (Option V)} {ds : List (Option PyData)} (i : Nat), En K G σ ds → En K G (σ.set i x) (ds.set i none)
  | _, _, _, .nil => .nil
  | _, _, 0, .no t => .no t
  | _, _, 0, .yes _ t => .no t
  | _, _, i + 1, .no t => .no (En.unset i t)
  | _, _, i + 1, .yes q t => .yes q (En.unset i t)
def wipeD (ds : List (Option PyData)) : List Nat → List (Option PyData)
  | [] => ds
  | v :: vs => (wipeD ds vs).set v none
theorem En.wipe {σ : List (Option V)} {ds : List (Option PyData)} (h : En K G σ ds) : ∀ vs : List Nat, En K G (L2.wipe σ vs) (wipeD ds vs)
  | [] => h
  | v :: vs => (En.wipe h vs).unset v
end

/-! ### what an expression, a test, arguments are worth, by the slots' data. o: objects put aside -/
structure Go (H H' : Hp) (o : List Addr) : Prop where
  ex : Ex H H'
  ow : Owned H' o
def EvD (K : PySem.W.Frag) (o : List Addr) (te : TE) (ds : List (Option PyData)) (d : PyData) : Prop :=
  ∀ σ H, En K (hide H o) σ ds → Owned H o → ∀ Q : VK, (∀ v H2, Ex H H2 → Owned H2 o → DD K (hide H2 o) v d → Q v H2) → te σ H Q
def EvA (K : PySem.W.Frag) (o : List Addr) (ta : TA) (ds : List (Option PyData)) (es : List PyData) : Prop :=
  ∀ σ H, En K (hide H o) σ ds → Owned H o → ∀ Q : List V → Hp → Prop, (∀ vs H2, Ex H H2 → Owned H2 o → DDs K (hide H2 o) vs es → Q vs H2) → ta σ H Q
def EvB (K : PySem.W.Frag) (o : List Addr) (tt : TT) (ds : List (Option PyData)) (b : Bool) : Prop :=
  ∀ σ H, En K (hide H o) σ ds → Owned H o → ∀ Q : Bool → Hp → Prop, (∀ H2, Ex H H2 → Owned H2 o → Q b H2) → tt σ H Q
theorem ex_hide {H H' : Hp} {o : List Addr} (e : Ex H H') : Ex (hide H o) (hide H' o) := fun a x h => by
  obtain ⟨c, h⟩ := hide_some h
  rw [hide_out c]
  exact e _ _ h
theorem ex_new {H : Hp} {p : Addr} {x : HO} (h : H p = none) : Ex H (upd H p x) := fun a u e => by
  rw [upd_ne (ne_of_none e h)]
  exact e
theorem ow_mono {H H' : Hp} {o : List Addr} (W : Owned H o) (e : Ex H H') : Owned H' o := fun a ha => by
  obtain ⟨x, h, q⟩ := W a ha
  exact ⟨x, e _ _ h, q⟩
theorem ow_new {H : Hp} {o : List Addr} {p : Addr} (W : Owned H o) (h : H p = none) : p ∉ o := fun c => by
  obtain ⟨x, e, _⟩ := W p c
  rw [h] at e
  cases e
theorem hide_new {H : Hp} {o : List Addr} {p : Addr} {x : HO} (W : Owned H o) (h : H p = none) : hide (upd H p x) o p = some x := by
  rw [hide_out (ow_new W h), upd_same]
section
variable {K : PySem.W.Frag} {o : List Addr} {ds : List (Option PyData)} {ta tb te : TE} {d e : PyData}
theorem ev_var {i : Nat} (h : ds[i]? = some (some d)) : EvD K o (tVar i) ds d := fun σ H E W Q q => by
  obtain ⟨v, e, x⟩ := E.get h
  exact ⟨v, e, q v H (Same.refl H) W x⟩
theorem ev_int {i : Int} : EvD K o (tC (.int i)) ds (.int i) := fun σ H E W Q q => q _ H (Same.refl H) W (.int i)
theorem ev_bl {b : Bool} : EvD K o (tC (.bl b)) ds (.bool b) := fun σ H E W Q q => q _ H (Same.refl H) W (.bl b)
theorem ev_str {x : Str} : EvD K o (tC (.str x)) ds (.str x) := fun σ H E W Q q => q _ H (Same.refl H) W (.str x)
theorem ev_non : EvD K o (tC .non) ds .none := fun σ H E W Q q => q _ H (Same.refl H) W .non
theorem ea_nil : EvA K o tNil ds [] := fun σ H E W Q q => q [] H (Same.refl H) W .nil
theorem ea_cons {t : TA} {es : List PyData} (h : EvD K o ta ds d) (r : EvA K o t ds es) : EvA K o (tCons ta t) ds (d :: es) := fun σ H E W Q q =>
  h σ H E W _ fun v H1 e1 W1 x => r σ H1 (E.mono (ex_hide e1)) W1 _ fun vs H2 e2 W2 xs => q _ H2 (e1.trans e2) W2 (.cons (x.mono (ex_hide e2)) xs)
theorem ev_tup {t : TA} {es : List PyData} (h : EvA K o t ds es) (hl : es.length ≤ sizeLine) : EvD K o (tTup t) ds (.tuple es) := fun σ H E W Q q =>
  h σ H E W _ fun vs H1 e1 W1 xs => ⟨by rw [xs.length]; exact hl, fun p hp => q _ _ (e1.trans (ex_new hp)) (ow_mono W1 (ex_new hp)) (.tup (SqT.of (hide_new W1 hp)) (xs.mono (ex_hide (ex_new hp))))⟩
theorem ev_lst {t : TA} {es : List PyData} (h : EvA K o t ds es) (hl : es.length ≤ sizeLine) : EvD K o (tLst t) ds (.list es) := fun σ H E W Q q =>
  h σ H E W _ fun vs H1 e1 W1 xs => ⟨by rw [xs.length]; exact hl, fun p hp => q _ _ (e1.trans (ex_new hp)) (ow_mono W1 (ex_new hp)) (.lst (hide_new W1 hp) (xs.mono (ex_hide (ex_new hp))))⟩
/-- an operator on data -/
def OpD (K : PySem.W.Frag) (o : List Addr) (r : R2) (a b d : PyData) : Prop :=
  ∀ x y H, Owned H o → DD K (hide H o) x a → DD K (hide H o) y b → ∀ Q : VK, (∀ v H2, Ex H H2 → Owned H2 o → DD K (hide H2 o) v d → Q v H2) → r x y H Q
theorem ev_op {r : R2} {a b : PyData} (h1 : EvD K o ta ds a) (h2 : EvD K o tb ds b) (hr : OpD K o r a b d) : EvD K o (tOp r ta tb) ds d := fun σ H E W Q q =>
  h1 σ H E W _ fun v H1 e1 W1 x => h2 σ H1 (E.mono (ex_hide e1)) W1 _ fun u H2 e2 W2 y => hr v u H2 W2 (x.mono (ex_hide e2)) y Q fun z H3 e3 W3 c => q z H3 (e1.trans (e2.trans e3)) W3 c
theorem od_I0 {g : Int → Int → V} {i j : Int} (h : ∀ G, DD K G (g i j) d) : OpD K o (rI0 g) (.int i) (.int j) d := fun x y H W hx hy Q q =>
  ⟨i, j, dd_int hx, dd_int hy, q _ H (Same.refl H) W (h _)⟩
theorem od_add {i j : Int} : OpD K o (rI0 fun i j => .int (i + j)) (.int i) (.int j) (.int (i + j)) := od_I0 fun _ => .int _
theorem od_sub {i j : Int} : OpD K o (rI0 fun i j => .int (i - j)) (.int i) (.int j) (.int (i - j)) := od_I0 fun _ => .int _
theorem od_lt {i j : Int} : OpD K o (rI0 fun i j => .bl (decide (i < j))) (.int i) (.int j) (.bool (decide (i < j))) := od_I0 fun _ => .bl _
theorem od_le {i j : Int} : OpD K o (rI0 fun i j => .bl (decide (i ≤ j))) (.int i) (.int j) (.bool (decide (i ≤ j))) := od_I0 fun _ => .bl _
theorem od_gt {i j : Int} : OpD K o (rI0 fun i j => .bl (decide (j < i))) (.int i) (.int j) (.bool (decide (j < i))) := od_I0 fun _ => .bl _
theorem od_ge {i j : Int} : OpD K o (rI0 fun i j => .bl (decide (j ≤ i))) (.int i) (.int j) (.bool (decide (j ≤ i))) := od_I0 fun _ => .bl _
theorem od_I {C : Int → Int → Prop} {g : Int → Int → V} {i j : Int} (hc : C i j) (h : ∀ G, DD K G (g i j) d) : OpD K o (rI C g) (.int i) (.int j) d := fun x y H W hx hy Q q =>
  ⟨i, j, dd_int hx, dd_int hy, hc, q _ H (Same.refl H) W (h _)⟩
theorem od_eqD {a b : PyData} (h1 : SeqAt.shaped a = true) (h2 : SeqAt.shaped b = true) : OpD K [] (rEqD K) a b (.bool (PyData.eqv a b)) := fun x y H W hx hy Q q =>
  ⟨a, b, (hx.mono (fun a u e => (hide_some e).2)).dp (SeqAt.canLay_of_shaped h1), (hy.mono (fun a u e => (hide_some e).2)).dp (SeqAt.canLay_of_shaped h2), h1, h2, q _ H (Same.refl H) W (.bl _)⟩
theorem hide_ex {H : Hp} : Ex (hide H o) H := fun a u e => (hide_some e).2
theorem od_eqD' {a b : PyData} (h1 : SeqAt.shaped a = true) (h2 : SeqAt.shaped b = true) : OpD K o (rEqD K) a b (.bool (PyData.eqv a b)) := fun x y H W hx hy Q q =>
  ⟨a, b, (hx.mono hide_ex).dp (SeqAt.canLay_of_shaped h1), (hy.mono hide_ex).dp (SeqAt.canLay_of_shaped h2), h1, h2, q _ H (Same.refl H) W (.bl _)⟩
theorem scal_int {i j : Int} : scal (.int i) (.int j) = true := rfl
theorem scal_bl {i j : Bool} : scal (.bl i) (.bl j) = true := rfl
theorem od_eqI {i j : Int} : OpD K o rEq (.int i) (.int j) (.bool (decide (i = j))) := fun x y H W hx hy Q q => by
  rw [dd_int hx, dd_int hy]
  refine ⟨rfl, q _ H (Same.refl H) W ?_⟩
  have e : decide ((V.int i) = .int j) = decide (i = j) := decide_eq_decide.mpr ⟨fun h => V.int.inj h, fun h => by rw [h]⟩
  rw [e]
  exact .bl _
theorem od_eqB {i j : Bool} : OpD K o rEq (.bool i) (.bool j) (.bool (decide (i = j))) := fun x y H W hx hy Q q => by
  rw [dd_bool hx, dd_bool hy]
  refine ⟨rfl, q _ H (Same.refl H) W ?_⟩
  have e : decide ((V.bl i) = .bl j) = decide (i = j) := decide_eq_decide.mpr ⟨fun h => V.bl.inj h, fun h => by rw [h]⟩
  rw [e]
  exact .bl _
theorem od_neB {i j : Bool} : OpD K o rNe (.bool i) (.bool j) (.bool (!decide (i = j))) := fun x y H W hx hy Q q => by
  rw [dd_bool hx, dd_bool hy]
  refine ⟨rfl, q _ H (Same.refl H) W ?_⟩
  have e : decide ((V.bl i) = .bl j) = decide (i = j) := decide_eq_decide.mpr ⟨fun h => V.bl.inj h, fun h => by rw [h]⟩
  rw [e]
  exact .bl _
theorem od_neI {i j : Int} : OpD K o rNe (.int i) (.int j) (.bool (!decide (i = j))) := fun x y H W hx hy Q q => by
  rw [dd_int hx, dd_int hy]
  refine ⟨rfl, q _ H (Same.refl H) W ?_⟩
  have e : decide ((V.int i) = .int j) = decide (i = j) := decide_eq_decide.mpr ⟨fun h => V.int.inj h, fun h => by rw [h]⟩
  rw [e]
  exact .bl _
theorem at_dds {G : Hp} {xs : List V} {es : List PyData} {i : Int} (h : DDs K G xs es) (e : atI es i = some d) : ∃ v, atI xs i = some v ∧ DD K G v d := by
  unfold atI at e ⊢
  rw [← h.length] at e
  cases z : ixN xs.length i with
  | none => rw [z] at e; cases e
  | some j =>
    rw [z] at e
    exact h.at e
theorem od_ixT {es : List PyData} {i : Int} (e : atI es i = some d) : OpD K o (rIxT K) (.tuple es) (.int i) d := fun x y H W hx hy Q q => by
  obtain ⟨a, xs, rfl, h, t⟩ := dd_tup hx
  obtain ⟨v, hv, c⟩ := at_dds t e
  exact ⟨a, xs, i, v, rfl, dd_int hy, ex_sqT hide_ex h, hv, q v H (Same.refl H) W c⟩
theorem od_ixL {es : List PyData} {i : Int} (e : atI es i = some d) : OpD K o (rIxL K) (.list es) (.int i) d := fun x y H W hx hy Q q => by
  obtain ⟨a, xs, rfl, h, t⟩ := dd_lst hx
  obtain ⟨v, hv, c⟩ := at_dds t e
  exact ⟨a, xs, i, v, rfl, dd_int hy, SqL.of (hide_some h).2, hv, q v H (Same.refl H) W c⟩
theorem od_cat {as bs : List PyData} (hl : as.length + bs.length ≤ sizeLine) : OpD K o rCat (.list as) (.list bs) (.list (as ++ bs)) := fun x y H W hx hy Q q => by
  obtain ⟨a, xs, rfl, h, t⟩ := dd_lst hx
  obtain ⟨b, ys, rfl, h2, t2⟩ := dd_lst hy
  refine ⟨a, b, xs, ys, rfl, rfl, (hide_some h).2, (hide_some h2).2, by rw [t.length, t2.length]; exact hl, fun p hp => ?_⟩
  exact q _ _ (ex_new hp) (ow_mono W (ex_new hp)) (.lst (hide_new W hp) ((t.append t2).mono (ex_hide (ex_new hp))))
theorem od_catA {as bs : List PyData} (hl : as.length + bs.length ≤ sizeLine) : OpD K o (rCatA K) (.tuple as) (.tuple bs) (.tuple (as ++ bs)) := fun x y H W hx hy Q q => by
  obtain ⟨a, xs, rfl, h, t⟩ := dd_tup hx
  obtain ⟨b, ys, rfl, h2, t2⟩ := dd_tup hy
  have l1 := t.length
  have l2 := t2.length
  refine ⟨a, b, xs, ys, rfl, rfl, ex_sqT hide_ex h, ex_sqT hide_ex h2, by omega, fun z => ?_, fun _ z => ?_, fun _ _ p hp => ?_⟩
  · subst z
    have e : as = [] := List.eq_nil_of_length_eq_zero (by rw [← l1]; rfl)
    subst e
    exact q _ H (Same.refl H) W hy
  · subst z
    have e : bs = [] := List.eq_nil_of_length_eq_zero (by rw [← l2]; rfl)
    subst e
    refine q _ H (Same.refl H) W ?_
    rw [List.append_nil]
    exact hx
  · exact q _ _ (ex_new hp) (ow_mono W (ex_new hp)) (.tup (SqT.of (hide_new W hp)) ((t.append t2).mono (ex_hide (ex_new hp))))
/-! tests -/
theorem eb_test {b : Bool} (h : EvD K o te ds (.bool b)) : EvB K o (tTest te) ds b := fun σ H E W Q q =>
  h σ H E W _ fun v H1 e1 W1 x => ⟨b, dd_bool x, q H1 e1 W1⟩
theorem eb_B {b : Bool} (h : EvD K o te ds (.bool b)) : EvB K o (tB te) ds b := fun σ H E W Q q =>
  h σ H E W _ fun v H1 e1 W1 x => ⟨b, dd_bool x, q H1 e1 W1⟩
theorem eb_not {t : TT} {b : Bool} (h : EvB K o t ds b) : EvB K o (tNot t) ds (!b) := fun σ H E W Q q => h σ H E W _ fun H1 e1 W1 => q H1 e1 W1
theorem eb_and {t u : TT} {a b : Bool} (h1 : EvB K o t ds a) (h2 : a = true → EvB K o u ds b) : EvB K o (tAnd t u) ds (a && b) := fun σ H E W Q q =>
  h1 σ H E W _ fun H1 e1 W1 => by
    cases a with
    | true =>
      refine iteT ?_
      exact h2 rfl σ H1 (E.mono (ex_hide e1)) W1 _ fun H2 e2 W2 => q H2 (e1.trans e2) W2
    | false =>
      refine iteF ?_
      exact q H1 e1 W1
theorem eb_or {t u : TT} {a b : Bool} (h1 : EvB K o t ds a) (h2 : a = false → EvB K o u ds b) : EvB K o (tOr t u) ds (a || b) := fun σ H E W Q q =>
  h1 σ H E W _ fun H1 e1 W1 => by
    cases a with
    | true =>
      refine iteT ?_
      exact q H1 e1 W1
    | false =>
      refine iteF ?_
      exact h2 rfl σ H1 (E.mono (ex_hide e1)) W1 _ fun H2 e2 W2 => q H2 (e1.trans e2) W2
theorem ev_andV {a b : Bool} (h1 : EvD K o ta ds (.bool a)) (h2 : a = true → EvD K o tb ds (.bool b)) : EvD K o (tAndV ta tb) ds (.bool (a && b)) := fun σ H E W Q q =>
  h1 σ H E W _ fun v H1 e1 W1 x => by
    refine ⟨a, dd_bool x, ?_⟩
    cases a with
    | true =>
      refine iteT ?_
      exact h2 rfl σ H1 (E.mono (ex_hide e1)) W1 _ fun v H2 e2 W2 y => q v H2 (e1.trans e2) W2 y
    | false =>
      refine iteF ?_
      exact q _ H1 e1 W1 (.bl _)
theorem ev_orV {a b : Bool} (h1 : EvD K o ta ds (.bool a)) (h2 : a = false → EvD K o tb ds (.bool b)) : EvD K o (tOrV ta tb) ds (.bool (a || b)) := fun σ H E W Q q =>
  h1 σ H E W _ fun v H1 e1 W1 x => by
    refine ⟨a, dd_bool x, ?_⟩
    cases a with
    | true =>
      refine iteT ?_
      exact q _ H1 e1 W1 (.bl _)
    | false =>
      refine iteF ?_
      exact h2 rfl σ H1 (E.mono (ex_hide e1)) W1 _ fun v H2 e2 W2 y => q v H2 (e1.trans e2) W2 y
theorem ev_notV {a : Bool} (h1 : EvD K o ta ds (.bool a)) : EvD K o (tNotV ta) ds (.bool (!a)) := fun σ H E W Q q =>
  h1 σ H E W _ fun v H1 e1 W1 x => ⟨a, dd_bool x, q _ H1 e1 W1 (.bl _)⟩
theorem ev_ifE {t : TT} {b : Bool} (h : EvB K o t ds b) (h1 : b = true → EvD K o ta ds d) (h2 : b = false → EvD K o tb ds d) : EvD K o (tIf t ta tb) ds d := fun σ H E W Q q =>
  h σ H E W _ fun H1 e1 W1 => by
    cases b with
    | true =>
      refine iteT ?_
      exact h1 rfl σ H1 (E.mono (ex_hide e1)) W1 _ fun v H2 e2 W2 y => q v H2 (e1.trans e2) W2 y
    | false =>
      refine iteF ?_
      exact h2 rfl σ H1 (E.mono (ex_hide e1)) W1 _ fun v H2 e2 W2 y => q v H2 (e1.trans e2) W2 y
/-! calls -/
def CbD (K : PySem.W.Frag) (o : List Addr) (r : List V → Hp → VK → Prop) (as : List PyData) (d : PyData) : Prop :=
  ∀ xs H, Owned H o → DDs K (hide H o) xs as → ∀ Q : VK, (∀ v H2, Ex H H2 → Owned H2 o → DD K (hide H2 o) v d → Q v H2) → r xs H Q
theorem ev_cb {r : List V → Hp → VK → Prop} {t : TA} {as : List PyData} (h : EvA K o t ds as) (hr : CbD K o r as d) : EvD K o (tCB r t) ds d := fun σ H E W Q q =>
  h σ H E W _ fun vs H1 e1 W1 xs => hr vs H1 W1 xs Q fun v H2 e2 W2 y => q v H2 (e1.trans e2) W2 y
/-- a pure def's promise -/
def spD (K : PySem.W.Frag) (n : Nat) (R : List PyData → PyData → Prop) : Sp := fun vs H Q _ => ∃ as d, DDs K H vs as ∧ as.length = n ∧ R as d ∧ ∀ v H', Ex H H' → DD K H' v d → Q v H'
theorem back_hide {H G : Hp} (g : ∀ a ∈ o, G a = none) : hide (back H o G) o = G := by
  funext a
  by_cases c : a ∈ o
  · rw [hide_in c, g a c]
  · rw [hide_out c, back_out c]
theorem back_ex {H G : Hp} (e : Ex (hide H o) G) : Ex H (back H o G) := fun a x h => by
  by_cases c : a ∈ o
  · rw [back_in c]
    exact h
  · rw [back_out c]
    exact e a x (by rw [hide_out c]; exact h)
theorem ev_call {n : Nat} {R : List PyData → PyData → Prop} {E : XK} {t : TA} {as : List PyData} (h : EvA K o t ds as) (hn : as.length = n) (hr : R as d) : EvD K o (tCall (spHide (spD K n R)) [] E t) ds d := fun σ H En W Q q =>
  h σ H En W _ fun vs H1 e1 W1 xs => by
    show spHide (spD K n R) (vs ++ []) H1 Q E
    rw [List.append_nil]
    refine ⟨o, W1, as, d, xs, hn, hr, fun v G e x g => ?_⟩
    refine q v _ (e1.trans (back_ex e)) (ow_mono W1 (back_ex e)) ?_
    rw [back_hide g]
    exact x
end
end Ph

namespace Ph
open PySem PySem.Spec PyProof.Rows L2

/-! ### what is walked, by data -/
/-- J hands out values of the data es, one after another, as long as the frozen part G stands -/
def ItD (K : PySem.W.Frag) (G : Hp) (J : It) (es : List PyData) : Prop := ∀ (H : Hp) (o : List Addr), Ex G (hide H o) → Owned H o → ∀ i : Nat,
  (∀ e, es[i]? = some e → J.go i H ∧ ∀ x H', J.yld i H x H' → Ex H H' ∧ DD K (hide H' o) x e) ∧ (es.length ≤ i → J.stop i H)
def EvI (K : PySem.W.Frag) (o : List Addr) (wi : TI) (ds : List (Option PyData)) (es : List PyData) : Prop :=
  ∀ σ H, En K (hide H o) σ ds → Owned H o → ∀ R : It → Hp → Prop, (∀ J H2, Ex H H2 → Owned H2 o → ItD K (hide H2 o) J es → R J H2) → wi σ H R
section
variable {K : PySem.W.Frag} {o : List Addr} {ds : List (Option PyData)} {ta tb te : TE} {d e : PyData}
theorem it_tup {G : Hp} {a : Addr} {xs : List V} {es : List PyData} (h : SqT K G a xs) (t : DDs K G xs es) : ItD K G (Itt K a) es := fun H o g W i => by
  refine ⟨fun e he => ?_, fun hi => ?_⟩
  · obtain ⟨v, hv, c⟩ := t.at he
    refine ⟨⟨xs, v, ex_sqT hide_ex (ex_sqT g h), hv⟩, fun x H' y => ?_⟩
    obtain ⟨rfl, f⟩ := y
    have e2 := f xs (ex_sqT hide_ex (ex_sqT g h))
    rw [hv] at e2
    cases e2
    exact ⟨Same.refl _, c.mono g⟩
  · exact ⟨xs, ex_sqT hide_ex (ex_sqT g h), by rw [t.length]; exact hi⟩
theorem it_lst {G : Hp} {a : Addr} {xs : List V} {es : List PyData} (h : G a = some (.lst xs)) (t : DDs K G xs es) : ItD K G (Itl K a) es := fun H o g W i => by
  have h2 : SqL K H a xs := SqL.of (hide_ex _ _ (g _ _ h))
  refine ⟨fun e he => ?_, fun hi => ?_⟩
  · obtain ⟨v, hv, c⟩ := t.at he
    refine ⟨⟨xs, v, h2, hv⟩, fun x H' y => ?_⟩
    obtain ⟨rfl, f⟩ := y
    have e2 := f xs h2
    rw [hv] at e2
    cases e2
    exact ⟨Same.refl _, c.mono g⟩
  · exact ⟨xs, h2, by rw [t.length]; exact hi⟩
theorem it_rng {G : Hp} {lo : Int} {n : Nat} : ItD K G (Itr lo n) ((List.range n).map fun i => .int (lo + (i : Nat))) := fun H o g W i => by
  refine ⟨fun e he => ?_, fun hi => ?_⟩
  · rw [List.getElem?_map] at he
    have hi : i < n := by
      by_cases c : i < n
      · exact c
      · rw [List.getElem?_eq_none (by rw [List.length_range]; omega)] at he
        cases he
    rw [List.getElem?_eq_getElem (by rw [List.length_range]; exact hi), List.getElem_range] at he
    have he := Option.some.inj he
    refine ⟨hi, fun x H' y => ?_⟩
    obtain ⟨rfl, rfl⟩ := y
    rw [← he]
    exact ⟨Same.refl _, .int _⟩
  · rw [List.length_map, List.length_range] at hi
    exact hi
theorem pairUp {H : Hp} {o : List Addr} {x y : V} {a b : PyData} {T : Addr} (W : Owned H o) (n : H T = none) (h1 : DD K (hide H o) x a) (h2 : DD K (hide H o) y b) :
    Ex H (upd H T (.tup [x, y])) ∧ DD K (hide (upd H T (.tup [x, y])) o) (.ref T) (.tuple [a, b]) :=
  ⟨ex_new n, .tup (SqT.of (hide_new W n)) (.cons (h1.mono (ex_hide (ex_new n))) (.cons (h2.mono (ex_hide (ex_new n))) .nil))⟩
def zipD (as bs : List PyData) : List PyData := (as.zip bs).map fun p => .tuple [p.1, p.2]
theorem zipD_get {as bs : List PyData} {i : Nat} {e : PyData} (h : (zipD as bs)[i]? = some e) : ∃ a b, as[i]? = some a ∧ bs[i]? = some b ∧ e = .tuple [a, b] := by
  unfold zipD at h
  rw [List.getElem?_map] at h
  cases z : (as.zip bs)[i]? with
  | none => rw [z] at h; cases h
  | some p =>
    rw [z] at h
    have h := Option.some.inj h
    rw [List.getElem?_zip_eq_some] at z
    exact ⟨p.1, p.2, z.1, z.2, h.symm⟩
theorem zipD_len {as bs : List PyData} : (zipD as bs).length = min as.length bs.length := by
  unfold zipD
  rw [List.length_map, List.length_zip]
theorem it_zipT {G : Hp} {a b : Addr} {xs ys : List V} {as bs : List PyData} (h : SqT K G a xs) (h' : SqT K G b ys) (t : DDs K G xs as) (t' : DDs K G ys bs) : ItD K G (RZ.ItzT K a b) (zipD as bs) := fun H o g W i => by
  have q1 := ex_sqT hide_ex (ex_sqT g h)
  have q2 := ex_sqT hide_ex (ex_sqT g h')
  refine ⟨fun e he => ?_, fun hi => ?_⟩
  · obtain ⟨a', b', e1, e2, rfl⟩ := zipD_get he
    obtain ⟨v, hv, c⟩ := t.at e1
    obtain ⟨v', hv', c'⟩ := t'.at e2
    refine ⟨⟨xs, ys, v, v', q1, q2, hv, hv'⟩, fun x H' y => ?_⟩
    obtain ⟨T, x1, x2, rfl, nT, rfl, f1, f2⟩ := y
    have e1 := f1 xs q1
    have e2 := f2 ys q2
    rw [hv] at e1
    rw [hv'] at e2
    cases e1
    cases e2
    exact pairUp W nT (c.mono g) (c'.mono g)
  · rw [zipD_len] at hi
    refine ⟨xs, ys, q1, q2, ?_⟩
    rw [t.length, t'.length]
    omega
theorem it_zipL {G : Hp} {a b : Addr} {xs ys : List V} {as bs : List PyData} (h : G a = some (.lst xs)) (h' : G b = some (.lst ys)) (t : DDs K G xs as) (t' : DDs K G ys bs) : ItD K G (Itz K a b) (zipD as bs) := fun H o g W i => by
  have q1 : SqL K H a xs := SqL.of (hide_ex _ _ (g _ _ h))
  have q2 : SqL K H b ys := SqL.of (hide_ex _ _ (g _ _ h'))
  refine ⟨fun e he => ?_, fun hi => ?_⟩
  · obtain ⟨a', b', e1, e2, rfl⟩ := zipD_get he
    obtain ⟨v, hv, c⟩ := t.at e1
    obtain ⟨v', hv', c'⟩ := t'.at e2
    refine ⟨⟨xs, ys, v, v', q1, q2, hv, hv'⟩, fun x H' y => ?_⟩
    obtain ⟨T, x1, x2, rfl, nT, rfl, f1, f2⟩ := y
    have e1 := f1 xs q1
    have e2 := f2 ys q2
    rw [hv] at e1
    rw [hv'] at e2
    cases e1
    cases e2
    exact pairUp W nT (c.mono g) (c'.mono g)
  · rw [zipD_len] at hi
    refine ⟨xs, ys, q1, q2, ?_⟩
    rw [t.length, t'.length]
    omega
def enumD (es : List PyData) : List PyData := es.mapIdx fun i e => .tuple [.int (i : Nat), e]
theorem it_enum {G : Hp} {a : Addr} {xs : List V} {es : List PyData} (h : G a = some (.lst xs)) (t : DDs K G xs es) : ItD K G (Ite K a) (enumD es) := fun H o g W i => by
  have q1 : SqL K H a xs := SqL.of (hide_ex _ _ (g _ _ h))
  refine ⟨fun e he => ?_, fun hi => ?_⟩
  · unfold enumD at he
    rw [List.getElem?_mapIdx] at he
    cases z : es[i]? with
    | none => rw [z] at he; cases he
    | some a' =>
      rw [z] at he
      have he := Option.some.inj he
      obtain ⟨v, hv, c⟩ := t.at z
      refine ⟨⟨xs, v, q1, hv⟩, fun x H' y => ?_⟩
      obtain ⟨T, x1, rfl, nT, rfl, f1⟩ := y
      have e1 := f1 xs q1
      rw [hv] at e1
      cases e1
      rw [← he]
      exact pairUp W nT (.int _) (c.mono g)
  · unfold enumD at hi
    rw [List.length_mapIdx] at hi
    exact ⟨xs, q1, by rw [t.length]; exact hi⟩
/-! the readings of what is walked -/
theorem ei_tup {es : List PyData} (h : EvD K o ta ds (.tuple es)) : EvI K o (iTup K ta) ds es := fun σ H E W R r =>
  h σ H E W _ fun v H2 e2 W2 x => by
    obtain ⟨a, xs, rfl, q, t⟩ := dd_tup x
    exact ⟨a, rfl, ⟨xs, ex_sqT hide_ex q⟩, r _ H2 e2 W2 (it_tup q t)⟩
theorem ei_lst {es : List PyData} (h : EvD K o ta ds (.list es)) : EvI K o (iList K ta) ds es := fun σ H E W R r =>
  h σ H E W _ fun v H2 e2 W2 x => by
    obtain ⟨a, xs, rfl, q, t⟩ := dd_lst x
    exact ⟨a, rfl, ⟨xs, SqL.of (hide_some q).2⟩, r _ H2 e2 W2 (it_lst q t)⟩
theorem ei_rng1 {n : Int} (h : EvD K o ta ds (.int n)) (h1 : -(2 ^ 62) ≤ n) (h2 : n < 2 ^ 62) : EvI K o (iRng1 (tCons ta tNil)) ds ((List.range n.toNat).map fun i => .int (0 + (i : Nat))) := fun σ H E W R r =>
  h σ H E W _ fun v H2 e2 W2 x => ⟨n, by rw [dd_int x], h1, h2, r _ H2 e2 W2 it_rng⟩
theorem ei_enum {es : List PyData} (h : EvD K o ta ds (.list es)) : EvI K o (iEnum K (tCons ta tNil)) ds (enumD es) := fun σ H E W R r =>
  h σ H E W _ fun v H2 e2 W2 x => by
    obtain ⟨a, xs, rfl, q, t⟩ := dd_lst x
    exact ⟨a, xs, rfl, SqL.of (hide_some q).2, r _ H2 e2 W2 (it_enum q t)⟩
theorem ei_zipT {as bs : List PyData} (h : EvD K o ta ds (.tuple as)) (h' : EvD K o tb ds (.tuple bs)) : EvI K o (RZ.iZipA K (tCons ta (tCons tb tNil))) ds (zipD as bs) := fun σ H E W R r =>
  h σ H E W _ fun v H1 e1 W1 x => h' σ H1 (E.mono (ex_hide e1)) W1 _ fun u H2 e2 W2 y => by
    obtain ⟨a, xs, rfl, q, t⟩ := dd_tup (x.mono (ex_hide e2))
    obtain ⟨b, ys, rfl, q', t'⟩ := dd_tup y
    exact ⟨a, b, xs, ys, rfl, .inr ⟨ex_sqT hide_ex q, ex_sqT hide_ex q', r _ H2 (e1.trans e2) W2 (it_zipT q q' t t')⟩⟩
theorem ei_zipL {as bs : List PyData} (h : EvD K o ta ds (.list as)) (h' : EvD K o tb ds (.list bs)) : EvI K o (RZ.iZipA K (tCons ta (tCons tb tNil))) ds (zipD as bs) := fun σ H E W R r =>
  h σ H E W _ fun v H1 e1 W1 x => h' σ H1 (E.mono (ex_hide e1)) W1 _ fun u H2 e2 W2 y => by
    obtain ⟨a, xs, rfl, q, t⟩ := dd_lst (x.mono (ex_hide e2))
    obtain ⟨b, ys, rfl, q', t'⟩ := dd_lst y
    exact ⟨a, b, xs, ys, rfl, .inl ⟨SqL.of (hide_some q).2, SqL.of (hide_some q').2, r _ H2 (e1.trans e2) W2 (it_zipL q q' t t')⟩⟩

/-! ### targets -/
/-- binding data e at g turns the slots' data ds into ds' -/
def GtD (K : PySem.W.Frag) (g : TG) (ds : List (Option PyData)) (e : PyData) (ds' : List (Option PyData)) : Prop :=
  ∀ x σ H o, DD K (hide H o) x e → En K (hide H o) σ ds → ∀ Q : L2.St → Hp → Prop, (∀ σ', En K (hide H o) σ' ds' → Q σ' H) → g x σ H Q
def GtW (g : TG) (vs : List Nat) : Prop := ∀ x σ H (Q : L2.St → Hp → Prop), g x σ H Q → g x σ H fun σ' H' => L2.wipe σ' vs = L2.wipe σ vs ∧ Q σ' H'
theorem gt_name {i : Nat} : GtD K (gName i) ds e (ds.set i (some e)) := fun x σ H o h E Q q => q _ (E.set h i)
theorem gt_two {i j : Nat} {a b : PyData} : GtD K (gTup K 2 (gCons (gName i) (gCons (gName j) gNil))) ds (.tuple [a, b]) ((ds.set i (some a)).set j (some b)) := fun x σ H o h E Q q => by
  obtain ⟨p, xs, rfl, hq, t⟩ := dd_tup h
  cases t with
  | cons h1 t =>
    cases t with
    | cons h2 t =>
      cases t
      exact ⟨p, _, rfl, ex_sqT hide_ex hq, rfl, _, _, rfl, _, _, rfl, rfl, q _ ((E.set h1 i).set h2 j)⟩
theorem set_none_comm {σ : L2.St} {i j : Nat} {x : Option V} (h : i ≠ j) : (σ.set i x).set j none = (σ.set j none).set i x := List.set_comm x none h
theorem wipe_set {σ : L2.St} {x : Option V} {i : Nat} : ∀ {vs : List Nat}, i ∈ vs → L2.wipe (σ.set i x) vs = L2.wipe σ vs
  | [], h => by cases h
  | v :: vs, h => by
    show (L2.wipe (σ.set i x) vs).set v none = (L2.wipe σ vs).set v none
    by_cases c : i ∈ vs
    · rw [wipe_set c]
    · have e : i = v := by
        rcases List.mem_cons.mp h with e | e
        · exact e
        · exact absurd e c
      subst e
      have z : ∀ (ws : List Nat) (σ : L2.St), i ∉ ws → L2.wipe (σ.set i x) ws = (L2.wipe σ ws).set i x := by
        intro ws
        induction ws with
        | nil => intro σ _; rfl
        | cons w ws ih =>
          intro σ hw
          have hw1 : i ≠ w := fun e => hw (by rw [e]; exact List.mem_cons_self)
          have hw2 : i ∉ ws := fun e => hw (List.mem_cons_of_mem _ e)
          show (L2.wipe (σ.set i x) ws).set w none = ((L2.wipe σ ws).set w none).set i x
          rw [ih σ hw2, set_none_comm hw1]
      rw [z vs σ c, List.set_set]
theorem gw_name {i : Nat} {vs : List Nat} (h : i ∈ vs) : GtW (gName i) vs := fun x σ H Q q => ⟨wipe_set h, q⟩
theorem gw_two {i j : Nat} {vs : List Nat} (h : i ∈ vs) (h' : j ∈ vs) : GtW (gTup K 2 (gCons (gName i) (gCons (gName j) gNil))) vs := fun x σ H Q q => by
  obtain ⟨a, xs, rfl, hq, hl, v, r, rfl, v2, r2, rfl, rfl, q⟩ := q
  exact ⟨a, _, rfl, hq, hl, v, _, rfl, v2, _, rfl, rfl, by rw [wipe_set h', wipe_set h], q⟩
theorem wipe_wipe {σ : L2.St} {vs ws : List Nat} (h : ∀ v ∈ ws, v ∈ vs) : L2.wipe (L2.wipe σ ws) vs = L2.wipe σ vs := by
  induction ws with
  | nil => rfl
  | cons w ws ih =>
    show L2.wipe ((L2.wipe σ ws).set w none) vs = L2.wipe σ vs
    rw [wipe_set (h w List.mem_cons_self), ih fun v hv => h v (List.mem_cons_of_mem _ hv)]

/-! ### comprehensions -/
/-- [elt for target in iter if test]: keep and f say what the test and the element are worth at each datum -/
theorem ev_lc {wi : TI} {g : TG} {tt : TT} {vs : List Nat} {α : Type} (c : α → PyData) {xs : List α} (keep : α → Bool) (f : α → PyData) (ds' : α → List (Option PyData)) (hi : EvI K o wi ds (xs.map c)) (hl : xs.length ≤ 1000000) (hw : GtW g vs)
    (hg : ∀ e ∈ xs, GtD K g (wipeD ds vs) (c e) (ds' e)) (ht : ∀ e ∈ xs, ∀ o, EvB K o tt (ds' e) (keep e)) (he : ∀ e ∈ xs, keep e = true → ∀ o, EvD K o te (ds' e) (f e)) :
    EvD K o (tLc wi g tt te vs) ds (.list ((xs.filter keep).map f)) := fun σ H E W Q q =>
  hi σ H E W _ fun J H1 e1 W1 it D nD => by
    have nDo : D ∉ o := ow_new W1 nD
    have hG : ∀ {H' : Hp}, (∀ a x, a ≠ D → H1 a = some x → H' a = some x) → Ex (hide H1 o) (hide H' (D :: o)) := fun {H'} k a x z => by
      obtain ⟨cc, z⟩ := hide_some z
      have n : a ≠ D := ne_of_none z nD
      rw [hide_out (fun m => by rcases List.mem_cons.mp m with m | m; exact n m; exact cc m)]
      exact k a x n z
    refine ⟨fun i m H2 => m = xs.length - i ∧ i ≤ xs.length ∧ Ex H1 H2 ∧ ∃ acc, H2 D = some (.lst acc) ∧ DDs K (hide H2 (D :: o)) acc (((xs.take i).filter keep).map f), ⟨xs.length, ?_⟩, fun i m H2 w => ?_⟩
    · refine ⟨rfl, Nat.zero_le _, ex_new nD, [], upd_same, ?_⟩
      exact .nil
    · obtain ⟨rfl, hi, ex2, acc, hD, t⟩ := w
      have W2 : Owned H2 (D :: o) := fun a ha => by
        rcases List.mem_cons.mp ha with rfl | ha
        · exact ⟨_, hD, True.intro⟩
        · exact ow_mono W1 ex2 a ha
      have G2 : Ex (hide H1 o) (hide H2 (D :: o)) := hG fun a x _ z => ex2 a x z
      by_cases cl : i < xs.length
      · obtain ⟨e, he'⟩ : ∃ e, xs[i]? = some e := ⟨_, List.getElem?_eq_getElem cl⟩
        have hm : e ∈ xs := List.mem_of_getElem? he'
        obtain ⟨go, yl⟩ := (it H2 (D :: o) G2 W2 i).1 (c e) (by rw [List.getElem?_map, he']; rfl)
        have tk : xs.take (i + 1) = xs.take i ++ [e] := by rw [List.take_add_one, he']; rfl
        refine .inr ⟨go, fun H3 => Ex H1 H3 ∧ ∃ acc, H3 D = some (.lst acc) ∧ DDs K (hide H3 (D :: o)) acc (((xs.take (i + 1)).filter keep).map f), fun H' n => ⟨xs.length - (i + 1), by omega, rfl, cl, n.1, n.2⟩, fun x H' y => ?_⟩
        obtain ⟨ex3, hx⟩ := yl x H' y
        have W3 := ow_mono W2 ex3
        have E3 : En K (hide H' (D :: o)) (L2.wipe σ vs) (wipeD ds vs) := ((E.mono (ex_hide e1)).mono (G2.trans (ex_hide ex3))).wipe vs
        refine (show g x (L2.wipe σ vs) H' _ from ?_)
        have ww : L2.wipe (L2.wipe σ vs) vs = L2.wipe σ vs := wipe_wipe fun v hv => hv
        have z := hw x (L2.wipe σ vs) H' (fun σ2 H3 => tt σ2 H3 fun b H4 => if b = true then te σ2 H4 fun y H5 => ∃ acc, H5 D = some (.lst acc) ∧ acc.length < sizeLine ∧ (Ex H1 (upd H5 D (.lst (acc ++ [y]))) ∧ ∃ acc2, (upd H5 D (.lst (acc ++ [y]))) D = some (.lst acc2) ∧ DDs K (hide (upd H5 D (.lst (acc ++ [y]))) (D :: o)) acc2 (((xs.take (i + 1)).filter keep).map f)) else (Ex H1 H4 ∧ ∃ acc2, H4 D = some (.lst acc2) ∧ DDs K (hide H4 (D :: o)) acc2 (((xs.take (i + 1)).filter keep).map f)))
          (hg e hm x (L2.wipe σ vs) H' (D :: o) hx E3 _ fun σ2 E4 => ht e hm (D :: o) σ2 H' E4 W3 _ fun H4 ex4 W4 => ?_)
        · rw [ww] at z
          exact z
        · by_cases ck : keep e = true
          · rw [if_pos ck]
            refine he e hm ck (D :: o) σ2 H4 (E4.mono (ex_hide ex4)) W4 _ fun y H5 ex5 W5 hy => ?_
            have ex25 : Ex H2 H5 := ex3.trans (ex4.trans ex5)
            refine ⟨acc, ex25 _ _ hD, ?_, ?_, acc ++ [y], upd_same, ?_⟩
            · have l := t.length
              rw [l, List.length_map]
              have l2 : ((xs.take i).filter keep).length ≤ (xs.take i).length := List.length_filter_le ..
              rw [List.length_take] at l2
              exact Nat.lt_of_le_of_lt (show _ ≤ 1000000 by omega) (by decide)
            · intro a x h
              rw [upd_ne (ne_of_none h nD)]
              exact ex25 _ _ (ex2 _ _ h)
            · rw [tk, List.filter_append, List.map_append]
              have e1 : ([e].filter keep).map f = [f e] := by
                rw [List.filter_cons_of_pos ck]
                rfl
              rw [e1]
              have hh : hide (upd H5 D (.lst (acc ++ [y]))) (D :: o) = hide H5 (D :: o) := by
                funext a
                by_cases m : a ∈ D :: o
                · rw [hide_in m, hide_in m]
                · rw [hide_out m, hide_out m, upd_ne (fun z => m (by rw [z]; exact List.mem_cons_self))]
              rw [hh]
              exact (t.mono (ex_hide ex25)).append (.cons hy .nil)
          · rw [if_neg ck]
            refine ⟨ex2.trans (ex3.trans ex4), acc, ex4 _ _ (ex3 _ _ hD), ?_⟩
            rw [tk, List.filter_append, List.map_append]
            have e1 : ([e].filter keep).map f = [] := by
              rw [List.filter_cons_of_neg ck]
              rfl
            rw [e1, List.append_nil]
            exact t.mono (ex_hide (ex3.trans ex4))
      · have ei : xs.take i = xs := List.take_of_length_le (by omega)
        rw [ei] at t
        refine .inl ⟨(it H2 (D :: o) G2 W2 i).2 (by rw [List.length_map]; omega), q _ H2 (e1.trans ex2) (ow_mono W1 ex2) (.lst (by rw [hide_out nDo]; exact hD) (t.mono fun a x z => ?_))⟩
        obtain ⟨c2, z⟩ := hide_some z
        rw [hide_out (fun m => c2 (List.mem_cons_of_mem _ m))]
        exact z
/-- without a test -/
theorem eb_yes : EvB K o tYes ds true := fun σ H E W Q q => q H (Same.refl H) W
theorem ev_lcm {wi : TI} {g : TG} {vs : List Nat} {α : Type} (c : α → PyData) {xs : List α} (f : α → PyData) (ds' : α → List (Option PyData)) (hi : EvI K o wi ds (xs.map c)) (hl : xs.length ≤ 1000000) (hw : GtW g vs)
    (hg : ∀ e ∈ xs, GtD K g (wipeD ds vs) (c e) (ds' e)) (he : ∀ e ∈ xs, ∀ o, EvD K o te (ds' e) (f e)) :
    EvD K o (tLc wi g tYes te vs) ds (.list (xs.map f)) := by
  have z := ev_lc (tt := tYes) c (fun _ => true) f ds' hi hl hw hg (fun e _ o => eb_yes) (fun e hm _ o => he e hm o)
  rw [List.filter_eq_self.mpr (fun _ _ => rfl)] at z
  exact z
end
end Ph

namespace Ph
open PySem PySem.Spec PyProof.Rows L2

section
variable {K : PySem.W.Frag} {o : List Addr} {ds ds1 ds2 : List (Option PyData)} {ta tb te : TE} {d e : PyData}
/-! ### built-ins by data -/
def rLen (K : PySem.W.Frag) : List V → Hp → VK → Prop := fun xs H Q => ∃ p ys, xs = [.ref p] ∧ (SqL K H p ys ∨ SqT K H p ys) ∧ Q (.int ys.length) H
theorem cb_lenT {es : List PyData} : CbD K o (rLen K) [.tuple es] (.int es.length) := fun xs H W h Q q => by
  cases h with
  | cons h t =>
    cases t
    obtain ⟨a, ys, rfl, hq, t⟩ := dd_tup h
    refine ⟨a, ys, rfl, .inr (ex_sqT hide_ex hq), q _ H (Same.refl H) W ?_⟩
    rw [t.length]
    exact .int _
theorem cb_lenL {es : List PyData} : CbD K o (rLen K) [.list es] (.int es.length) := fun xs H W h Q q => by
  cases h with
  | cons h t =>
    cases t
    obtain ⟨a, ys, rfl, hq, t⟩ := dd_lst h
    refine ⟨a, ys, rfl, .inl (SqL.of (hide_some hq).2), q _ H (Same.refl H) W ?_⟩
    rw [t.length]
    exact .int _
def rTupOf (K : PySem.W.Frag) : List V → Hp → VK → Prop := fun xs H Q => ∃ p ys, xs = [.ref p] ∧ ((SqL K H p ys ∧ ∀ l, H l = none → Q (.ref l) (upd H l (.tup ys))) ∨ (SqT K H p ys ∧ Q (.ref p) H))
theorem cb_tupL {es : List PyData} : CbD K o (rTupOf K) [.list es] (.tuple es) := fun xs H W h Q q => by
  cases h with
  | cons h t =>
    cases t
    obtain ⟨a, ys, rfl, hq, t⟩ := dd_lst h
    exact ⟨a, ys, rfl, .inl ⟨SqL.of (hide_some hq).2, fun l hl => q _ _ (ex_new hl) (ow_mono W (ex_new hl)) (.tup (SqT.of (hide_new W hl)) (t.mono (ex_hide (ex_new hl))))⟩⟩
theorem cb_tupT {es : List PyData} : CbD K o (rTupOf K) [.tuple es] (.tuple es) := fun xs H W h Q q => by
  cases h with
  | cons h t =>
    cases t
    obtain ⟨a, ys, rfl, hq, t⟩ := dd_tup h
    exact ⟨a, ys, rfl, .inr ⟨ex_sqT hide_ex hq, q _ H (Same.refl H) W (.tup hq t)⟩⟩
def rLstOf (K : PySem.W.Frag) : List V → Hp → VK → Prop := fun xs H Q => ∃ p ys, xs = [.ref p] ∧ (SqL K H p ys ∨ SqT K H p ys) ∧ ∀ l, H l = none → Q (.ref l) (upd H l (.lst ys))
theorem cb_lstL {es : List PyData} : CbD K o (rLstOf K) [.list es] (.list es) := fun xs H W h Q q => by
  cases h with
  | cons h t =>
    cases t
    obtain ⟨a, ys, rfl, hq, t⟩ := dd_lst h
    exact ⟨a, ys, rfl, .inl (SqL.of (hide_some hq).2), fun l hl => q _ _ (ex_new hl) (ow_mono W (ex_new hl)) (.lst (hide_new W hl) (t.mono (ex_hide (ex_new hl))))⟩
theorem cb_lstT {es : List PyData} : CbD K o (rLstOf K) [.tuple es] (.list es) := fun xs H W h Q q => by
  cases h with
  | cons h t =>
    cases t
    obtain ⟨a, ys, rfl, hq, t⟩ := dd_tup h
    exact ⟨a, ys, rfl, .inr (ex_sqT hide_ex hq), fun l hl => q _ _ (ex_new hl) (ow_mono W (ex_new hl)) (.lst (hide_new W hl) (t.mono (ex_hide (ex_new hl))))⟩
theorem cb_all {bs : List Bool} : CbD K o (rAll K) [.list (bs.map PyData.bool)] (.bool (bs.all id)) := fun xs H W h Q q => by
  cases h with
  | cons h t =>
    cases t
    obtain ⟨a, ys, rfl, hq, t⟩ := dd_lst h
    rw [dds_bools t] at hq
    exact ⟨a, bs, rfl, SqL.of (hide_some hq).2, q _ H (Same.refl H) W (.bl _)⟩
def rMx : List V → Hp → VK → Prop := fun xs H Q => ∃ i j, xs = [.int i, .int j] ∧ Q (.int (if j > i then j else i)) H
theorem cb_max {i j : Int} : CbD K o rMx [.int i, .int j] (.int (if j > i then j else i)) := fun xs H W h Q q => by
  cases h with
  | cons h t =>
    cases t with
    | cons h2 t =>
      cases t
      rw [dd_int h, dd_int h2]
      exact ⟨i, j, rfl, q _ H (Same.refl H) W (.int _)⟩
/-! isinstance -/
def tyN : PyData → String
  | .none => "NoneType"
  | .bool _ => "bool"
  | .int _ => "int"
  | .str _ => "str"
  | .list _ => "list"
  | .tuple _ => "tuple"
  | .dict _ => "dict"
theorem ty_of {H : Hp} {v : V} (h : DD K H v d) : TyX K H v (.type (tyN d)) := by
  cases h with
  | non => exact .base .non
  | bl b => exact .base (.bl b)
  | int i => exact .base (.int i)
  | str x => exact .base (.str x)
  | lst h t => exact .base (.lst h)
  | dct h t => exact .base (.dK h)
  | tup h t =>
    rcases h with (h | ⟨ob, h⟩) | ⟨ob, its, n, hk, hc, _⟩
    · exact .base (.tup h)
    · exact .fTuple h
    · exact .kTuple hk hc
theorem ty_ex {H H' : Hp} {v : V} {n : String} (h : DD K H v d) (e : Ex H H') : TyX K H' v (.type (tyN d)) := ty_of (h.mono e)
theorem ev_isi {T : String} {b : Bool} (h : EvD K o ta ds d) (hb : kitB (tyN d) T = some b) : EvD K o (tCB (rIsi K) (tCons ta (tCons (tC (.ty T)) tNil))) ds (.bool b) := fun σ H E W Q q =>
  h σ H E W _ fun v H1 e1 W1 x => ⟨v, .ty T, _, _, b, rfl, .ty T, ty_ex x hide_ex (n := T), kit_ty hb, q _ H1 e1 W1 (.bl b)⟩
theorem ev_isiT {A B : String} {b1 b2 : Bool} (h : EvD K o ta ds d) (h1 : kitB (tyN d) A = some b1) (h2 : kitB (tyN d) B = some b2) :
    EvD K o (tCB (rIsiT K) (tCons ta (tCons (tTup (tCons (tC (.ty A)) (tCons (tC (.ty B)) tNil))) tNil))) ds (.bool (b1 || b2)) := fun σ H E W Q q =>
  h σ H E W _ fun v H1 e1 W1 x => ⟨by show 2 ≤ sizeLine; decide, fun p hp => by
    refine ⟨v, p, _, _, _, b1 || b2, rfl, upd_same, .cons (.ty A) (.cons (.ty B) .nil), ty_ex x (hide_ex.trans (ex_new hp)) (n := A), ?_, q _ _ (e1.trans (ex_new hp)) (ow_mono W1 (ex_new hp)) (.bl _)⟩
    refine kitAny_cons (kit_ty h1) (fun e => ?_) (fun e => by rw [e]; rfl)
    rw [e]
    refine kitAny_cons (kit_ty h2) (fun e => ?_) (fun e => by rw [e]; rfl)
    rw [e]
    exact kitAny_nil⟩
theorem ev_isN (h : EvD K o ta ds d) : EvD K o (tIsN ta) ds (.bool (match d with | .none => true | _ => false)) := fun σ H E W Q q =>
  h σ H E W _ fun v H1 e1 W1 x => by
    refine q _ H1 e1 W1 ?_
    cases x with
    | non => exact .bl _
    | bl b => exact .bl _
    | int i => exact .bl _
    | str i => exact .bl _
    | lst _ _ => exact .bl _
    | tup _ _ => exact .bl _
    | dct _ _ => exact .bl _
/-! == of scalars -/
def scalD : PyData → Bool
  | .none => true
  | .bool _ => true
  | .int _ => true
  | .str _ => true
  | _ => false
/-! ### statements -/
def SvN (K : PySem.W.Frag) (o : List Addr) (ts : TS) (ds ds' : List (Option PyData)) : Prop :=
  ∀ (D : Ends) σ H, En K (hide H o) σ ds → Owned H o → (∀ σ' H', Ex H H' → Owned H' o → En K (hide H' o) σ' ds' → D.nx σ' H') → ts D σ H
def SvR (K : PySem.W.Frag) (o : List Addr) (ts : TS) (ds : List (Option PyData)) (d : PyData) : Prop :=
  ∀ (D : Ends) σ H, En K (hide H o) σ ds → Owned H o → (∀ v H', Ex H H' → Owned H' o → DD K (hide H' o) v d → D.rt v H') → ts D σ H
theorem sn_seq {t u : TS} (h : SvN K o t ds ds1) (h2 : SvN K o u ds1 ds2) : SvN K o (tSeq t u) ds ds2 := fun D σ H E W q =>
  h _ σ H E W fun σ1 H1 e1 W1 E1 => h2 D σ1 H1 E1 W1 fun σ2 H2 e2 W2 E2 => q σ2 H2 (e1.trans e2) W2 E2
theorem sr_seq {t u : TS} (h : SvN K o t ds ds1) (h2 : SvR K o u ds1 d) : SvR K o (tSeq t u) ds d := fun D σ H E W q =>
  h _ σ H E W fun σ1 H1 e1 W1 E1 => h2 D σ1 H1 E1 W1 fun v H2 e2 W2 E2 => q v H2 (e1.trans e2) W2 E2
theorem sr_now {t u : TS} (h : SvR K o t ds d) : SvR K o (tSeq t u) ds d := fun D σ H E W q => h _ σ H E W q
theorem sn_nil : SvN K o tNext ds ds := fun D σ H E W q => q σ H (Same.refl H) W E
theorem sn_asg {g : TG} (h : EvD K o te ds e) (hg : GtD K g ds e ds1) : SvN K o (tAsg te g) ds ds1 := fun D σ H E W q =>
  h σ H E W _ fun v H1 e1 W1 x => hg v σ H1 o x (E.mono (ex_hide e1)) _ fun σ' E' => q σ' H1 e1 W1 E'
theorem sn_set {i : Nat} (h : EvD K o te ds e) : SvN K o (tAsg te (gName i)) ds (ds.set i (some e)) := sn_asg h gt_name
theorem sr_ret (h : EvD K o te ds d) : SvR K o (tRet te) ds d := fun D σ H E W q => h σ H E W _ q
theorem sn_if {c : TT} {t u : TS} {b : Bool} (h : EvB K o c ds b) (h1 : b = true → SvN K o t ds ds1) (h2 : b = false → SvN K o u ds ds1) : SvN K o (tIfS c t u) ds ds1 := fun D σ H E W q =>
  h σ H E W _ fun H1 e1 W1 => by
    cases b with
    | true =>
      refine iteT ?_
      exact h1 rfl D σ H1 (E.mono (ex_hide e1)) W1 fun σ' H' e W' E' => q σ' H' (e1.trans e) W' E'
    | false =>
      refine iteF ?_
      exact h2 rfl D σ H1 (E.mono (ex_hide e1)) W1 fun σ' H' e W' E' => q σ' H' (e1.trans e) W' E'
theorem sr_if {c : TT} {t u : TS} {b : Bool} (h : EvB K o c ds b) (h1 : b = true → SvR K o t ds d) (h2 : b = false → SvR K o u ds d) : SvR K o (tIfS c t u) ds d := fun D σ H E W q =>
  h σ H E W _ fun H1 e1 W1 => by
    cases b with
    | true =>
      refine iteT ?_
      exact h1 rfl D σ H1 (E.mono (ex_hide e1)) W1 fun v H' e W' E' => q v H' (e1.trans e) W' E'
    | false =>
      refine iteF ?_
      exact h2 rfl D σ H1 (E.mono (ex_hide e1)) W1 fun v H' e W' E' => q v H' (e1.trans e) W' E'
/-- if c: return ..; then the rest -/
theorem sr_ifRet {c : TT} {t u : TS} {b : Bool} (h : EvB K o c ds b) (h1 : b = true → SvR K o t ds d) (h2 : b = false → SvR K o u ds d) : SvR K o (tSeq (tIfS c t tNext) u) ds d := fun D σ H E W q =>
  h σ H E W _ fun H1 e1 W1 => by
    cases b with
    | true =>
      refine iteT ?_
      exact h1 rfl _ σ H1 (E.mono (ex_hide e1)) W1 fun v H' e W' E' => q v H' (e1.trans e) W' E'
    | false =>
      refine iteF ?_
      exact h2 rfl D σ H1 (E.mono (ex_hide e1)) W1 fun v H' e W' E' => q v H' (e1.trans e) W' E'
/-- a for over data: Pv by the heap at its begin, the turn, the slots and the heap -/
theorem for_dataG {wi : TI} {g : TG} {tb : TS} {es : List PyData} {D : Ends} {σ : L2.St} {H : Hp} (hi : ∀ R : It → Hp → Prop, (∀ J H2, Ex H H2 → Owned H2 o → ItD K (hide H2 o) J es → R J H2) → wi σ H R) (Pv : Hp → Nat → L2.St → Hp → Prop)
    (h0 : ∀ H1, Ex H H1 → Owned H1 o → Pv H1 0 σ H1) (fr : ∀ H1, Ex H H1 → Owned H1 o → ∀ i σ' H', Pv H1 i σ' H' → ∃ o', Ex (hide H1 o) (hide H' o') ∧ Owned H' o' ∧
      (∀ e, es[i]? = some e → ∀ x H2, Ex H' H2 → DD K (hide H2 o') x e → g x σ' H2 fun σ2 H3 => tb { D with nx := Pv H1 (i + 1), ct := Pv H1 (i + 1), bk := D.nx } σ2 H3) ∧ (i = es.length → D.nx σ' H')) : tFor wi g tb D σ H :=
  hi _ fun J H1 e1 W1 it => by
    refine ⟨fun i m σ' H' => m = es.length - i ∧ i ≤ es.length ∧ Pv H1 i σ' H', ⟨es.length, rfl, Nat.zero_le _, h0 H1 e1 W1⟩, fun i m σ' H' w => ?_⟩
    obtain ⟨rfl, hi, p⟩ := w
    obtain ⟨o', fz, W', turn, done⟩ := fr H1 e1 W1 i σ' H' p
    by_cases c : i < es.length
    · obtain ⟨e, he'⟩ : ∃ e, es[i]? = some e := ⟨_, List.getElem?_eq_getElem c⟩
      obtain ⟨go, yl⟩ := (it H' o' fz W' i).1 e he'
      refine .inr ⟨go, Pv H1 (i + 1), fun σ2 H2 n => ⟨es.length - (i + 1), by omega, rfl, c, n⟩, fun x H2 y => ?_⟩
      obtain ⟨ex2, hx⟩ := yl x H2 y
      exact turn e he' x H2 ex2 hx
    · exact .inl ⟨(it H' o' fz W' i).2 (by omega), done (by omega)⟩
/-- a for over data: Pv by the heap at its begin, the turn, the slots and the heap -/
theorem for_data {wi : TI} {g : TG} {tb : TS} {es : List PyData} {D : Ends} {σ : L2.St} {H : Hp} (hi : EvI K o wi ds es) (E : En K (hide H o) σ ds) (W : Owned H o) (Pv : Hp → Nat → L2.St → Hp → Prop)
    (h0 : ∀ H1, Ex H H1 → Owned H1 o → Pv H1 0 σ H1) (fr : ∀ H1, Ex H H1 → Owned H1 o → ∀ i σ' H', Pv H1 i σ' H' → ∃ o', Ex (hide H1 o) (hide H' o') ∧ Owned H' o' ∧
      (∀ e, es[i]? = some e → ∀ x H2, Ex H' H2 → DD K (hide H2 o') x e → g x σ' H2 fun σ2 H3 => tb { D with nx := Pv H1 (i + 1), ct := Pv H1 (i + 1), bk := D.nx } σ2 H3) ∧ (i = es.length → D.nx σ' H')) : tFor wi g tb D σ H :=
  for_dataG (fun R r => hi σ H E W R r) Pv h0 fr
/-- a for that changes the slots' data alone; the rest behind it. stop: the turn that returns -/
theorem sr_for {wi : TI} {g : TG} {tb u : TS} {es : List PyData} (I : Nat → List (Option PyData)) (stop : Nat → Bool) (hi : EvI K o wi (I 0) es)
    (ht : ∀ i e, es[i]? = some e → ∃ dm, GtD K g (I i) e dm ∧ (stop i = true → SvR K o tb dm d) ∧ (stop i = false → SvN K o tb dm (I (i + 1))))
    (hu : (∀ i, i < es.length → stop i = false) → SvR K o u (I es.length) d) : SvR K o (tSeq (tFor wi g tb) u) (I 0) d := fun D σ H E W q => by
  refine for_data (D := { D with nx := u D }) hi E W (fun H1 i σ' H' => Ex H1 H' ∧ Owned H' o ∧ En K (hide H' o) σ' (I i) ∧ ∀ j, j < i → stop j = false) (fun H1 e1 W1 => ⟨Same.refl _, W1, E.mono (ex_hide e1), fun j hj => absurd hj (Nat.not_lt_zero _)⟩) ?_
  intro H1 e1 W1 i σ' H' p
  obtain ⟨e2, W2, E2, nos⟩ := p
  refine ⟨o, ex_hide e2, W2, fun e he x H2 e3 hx => ?_, fun hl => ?_⟩
  · obtain ⟨dm, hg, hs, hc⟩ := ht i e he
    refine hg x σ' H2 o hx (E2.mono (ex_hide e3)) _ fun σ2 E3 => ?_
    cases cs : stop i with
    | true => exact hs cs _ σ2 H2 E3 (ow_mono W2 e3) fun v H4 e4 W4 x4 => q v H4 (e1.trans (e2.trans (e3.trans e4))) W4 x4
    | false =>
      refine hc cs _ σ2 H2 E3 (ow_mono W2 e3) fun σ4 H4 e4 W4 E4 => ⟨e2.trans (e3.trans e4), W4, E4, fun j hj => ?_⟩
      by_cases z : j < i
      · exact nos j z
      · have : j = i := by omega
        rw [this]
        exact cs
  · subst hl
    exact hu nos D σ' H' E2 W2 fun v H4 e4 W4 x4 => q v H4 (e1.trans (e2.trans e4)) W4 x4
theorem sn_for {wi : TI} {g : TG} {tb : TS} {es : List PyData} (I : Nat → List (Option PyData)) (hi : EvI K o wi (I 0) es)
    (ht : ∀ i e, es[i]? = some e → ∃ dm, GtD K g (I i) e dm ∧ SvN K o tb dm (I (i + 1))) : SvN K o (tFor wi g tb) (I 0) (I es.length) := fun D σ H E W q => by
  refine for_data (D := D) hi E W (fun H1 i σ' H' => Ex H1 H' ∧ Owned H' o ∧ En K (hide H' o) σ' (I i)) (fun H1 e1 W1 => ⟨Same.refl _, W1, E.mono (ex_hide e1)⟩) ?_
  intro H1 e1 W1 i σ' H' p
  obtain ⟨e2, W2, E2⟩ := p
  refine ⟨o, ex_hide e2, W2, fun e he x H2 e3 hx => ?_, fun hl => ?_⟩
  · obtain ⟨dm, hg, hc⟩ := ht i e he
    refine hg x σ' H2 o hx (E2.mono (ex_hide e3)) _ fun σ2 E3 => ?_
    exact hc _ σ2 H2 E3 (ow_mono W2 e3) fun σ4 H4 e4 W4 E4 => ⟨e2.trans (e3.trans e4), W4, E4⟩
  · subst hl
    exact q σ' H' (e1.trans e2) W2 E2
end
section
variable {P : Program} {w : World} {K : PySem.W.Frag} {mg : Str → Option Value} {base : Heap}
theorem en_start {H : Hp} : ∀ {vs : List V} {as : List PyData} (n : Nat), DDs K H vs as → En K H (vs.map some ++ List.replicate n none) (as.map some ++ List.replicate n none)
  | _, _, 0, .nil => .nil
  | _, _, n + 1, .nil => .no (en_start (vs := []) (as := []) n .nil)
  | _, _, n, .cons h t => .yes h (en_start n t)
theorem hide_nil {H : Hp} : hide H [] = H := by
  funext a
  exact hide_out (by simp)
/-- the slots' data at a def's entry -/
def startD (N : List Str) (as : List PyData) : List (Option PyData) := as.map some ++ List.replicate (N.length - as.length) none
theorem fn_pure {x qual : Str} {st : Stmt} {f : Addr} {fd : FuncData} {N ps : List Str} {k n : Nat} {R : List PyData → PyData → Prop} (F : Fun K x qual st f fd) (S : FnScope N ps (defScope st)) (hn : ps.length = n)
    (hbody : ∀ (cdv : Value) (A : Around) (outer : List Env) (s : Shared) (H : Hp) (E : XK), Room k (A.deeper (envOfC qual (defScope st) s.heap.objs.size f cdv)) →
      ∃ t, PSs (cxOf CX0 P w K mg base N qual (defScope st) f cdv A outer s H E).nox (defBody st) t ∧ ∀ as d, as.length = n → R as d → SvR K [] t (startD N as) d) : FnOk P w K mg base CX0 (k + 1) f fd ps (spD K n R) := by
  refine F.ok S (fun vs H Q E h => ?_) (fun cdv A outer s H vs Q E hr h => ?_)
  · obtain ⟨as, d, h, hl, _⟩ := h
    rw [h.length, hl, hn]
  · obtain ⟨as, d, h, hl, hR, q⟩ := h
    obtain ⟨t, hp, hv⟩ := hbody cdv A outer s H E hr
    refine ⟨t, hp, ?_⟩
    have z : start N vs = vs.map some ++ List.replicate (N.length - vs.length) none := rfl
    rw [z, h.length]
    refine hv as d hl hR _ _ H (by rw [hide_nil]; exact en_start _ h) (fun a ha => by cases ha) fun v H' e W x => ?_
    rw [hide_nil] at x
    exact q v H' e x
end
end Ph

namespace Ph
open PySem PySem.Spec PyProof.Rows L2

/-- a def by its name: where it stands, its promise -/
def Cal (P : Program) (w : World) (K : PySem.W.Frag) (mg : Str → Option Value) (base : Heap) (x : Str) (k : Nat) (ps : List Str) (sp : Sp) : Prop :=
  ∃ (f : Addr) (fd : FuncData), mg x = some (.ref f) ∧ PySem.W.keepIn K (.ref f) = true ∧ Binds K fd ps [] ∧ FnOk P w K mg base CX0 k f fd ps sp
theorem pe_cal {X : Cx} {x : Str} {k : Nat} {ps : List Str} {sp : Sp} {p pos : Pos} {e : Expr} {es : List Expr} {t : TA} (C : Cal X.prog X.w X.K X.mg X.base x k ps sp) (hr : Room k X.A) (hg : Gl X x) (ha : PA X (e :: es) t)
    (hdb : (x == ("__debug__" : Str)) = false := by decide) (he : starEach (e :: es) X.env = (false, eval e X.env) :: starEach es X.env := by rfl) (hpl : (backTo pos (starEach es X.env)).any (·.1) = false := by rfl) :
    PE X (.Call (.Name x p) (e :: es) [] pos) (tCall (spHide sp) [] E0 t) := by
  obtain ⟨f, fd, hm, hk, hb, F⟩ := C
  exact pe_call (fn_hide F) hr hg hm hk hb .nil pass0 ha hdb he hpl
theorem pe_calU {X : Cx} {x : Str} {k : Nat} {ps : List Str} {sp : Sp} {p pos : Pos} {e : Expr} {es : List Expr} {t : TA} (C : Cal X.prog X.w X.K X.mg X.base x k ps sp) (hr : Room k X.A) (hg : Gl X x) (ha : PA X (e :: es) t)
    (hdb : (x == ("__debug__" : Str)) = false := by decide) (he : starEach (e :: es) X.env = (false, eval e X.env) :: starEach es X.env := by rfl) (hpl : (backTo pos (starEach es X.env)).any (·.1) = false := by rfl) :
    PE X (.Call (.Name x p) (e :: es) [] pos) (tCall sp [] E0 t) := by
  obtain ⟨f, fd, hm, hk, hb, F⟩ := C
  exact pe_call F hr hg hm hk hb .nil pass0 ha hdb he hpl
/-- the built-in names that stay the built-in ones -/
structure Blt (mg : Str → Option Value) : Prop where
  isinstance : mg "isinstance" = none
  len : mg "len" = none
  tuple : mg "tuple" = none
  list : mg "list" = none
  int : mg "int" = none
  bool : mg "bool" = none
  str : mg "str" = none
  all : mg "all" = none
  range : mg "range" = none
  enumerate : mg "enumerate" = none
  zip : mg "zip" = none
  max : mg "max" = none
  abs : mg "abs" = none
section
variable {K : PySem.W.Frag} {o : List Addr} {ds : List (Option PyData)} {ta tb te : TE} {d e : PyData}
/-- == of a thing with itself: None, bool, int, text -/
theorem od_eqS {a : PyData} (h : scalD a = true) : OpD K o rEq a a (.bool true) := fun x y H W hx hy Q q => by
  have e : x = y := by
    cases hx <;> cases hy <;> first | rfl | cases h
  subst e
  have s : scal x x = true := by cases hx <;> first | rfl | cases h
  refine ⟨s, q _ H (Same.refl H) W ?_⟩
  rw [decide_eq_true rfl]
  exact .bl _
theorem ev_to (h : EvD K o te ds d) (e' : d = e) : EvD K o te ds e := e' ▸ h
theorem gt_to {g : TG} {ds' ds2 : List (Option PyData)} (h : GtD K g ds e ds') (e' : ds' = ds2) : GtD K g ds e ds2 := e' ▸ h
end
end Ph
namespace Ph
open PySem PySem.Spec PyProof.Rows L2
def isInt : PyData → Bool
  | .int _ => true
  | .bool _ => true
  | _ => false
def isBool : PyData → Bool
  | .bool _ => true
  | _ => false
def isList : PyData → Bool
  | .list _ => true
  | _ => false
def isTuple : PyData → Bool
  | .tuple _ => true
  | _ => false
def isStr : PyData → Bool
  | .str _ => true
  | _ => false
def isNone : PyData → Bool
  | .none => true
  | _ => false
theorem kInt : ∀ d : PyData, kitB (tyN d) "int" = some (isInt d) := fun d => by
  cases d <;> (first | (show kitB "NoneType" "int" = some false; decide +kernel) | (show kitB "bool" "int" = some true; decide +kernel) | (show kitB "int" "int" = some true; decide +kernel) | (show kitB "str" "int" = some false; decide +kernel) | (show kitB "list" "int" = some false; decide +kernel) | (show kitB "tuple" "int" = some false; decide +kernel) | (show kitB "dict" "int" = some false; decide +kernel))
theorem kBool : ∀ d : PyData, kitB (tyN d) "bool" = some (isBool d) := fun d => by
  cases d <;> (first | (show kitB "NoneType" "bool" = some false; decide +kernel) | (show kitB "bool" "bool" = some true; decide +kernel) | (show kitB "int" "bool" = some false; decide +kernel) | (show kitB "str" "bool" = some false; decide +kernel) | (show kitB "list" "bool" = some false; decide +kernel) | (show kitB "tuple" "bool" = some false; decide +kernel) | (show kitB "dict" "bool" = some false; decide +kernel))
theorem kList : ∀ d : PyData, kitB (tyN d) "list" = some (isList d) := fun d => by
  cases d <;> (first | (show kitB "NoneType" "list" = some false; decide +kernel) | (show kitB "bool" "list" = some false; decide +kernel) | (show kitB "int" "list" = some false; decide +kernel) | (show kitB "str" "list" = some false; decide +kernel) | (show kitB "list" "list" = some true; decide +kernel) | (show kitB "tuple" "list" = some false; decide +kernel) | (show kitB "dict" "list" = some false; decide +kernel))
theorem kTuple : ∀ d : PyData, kitB (tyN d) "tuple" = some (isTuple d) := fun d => by
  cases d <;> (first | (show kitB "NoneType" "tuple" = some false; decide +kernel) | (show kitB "bool" "tuple" = some false; decide +kernel) | (show kitB "int" "tuple" = some false; decide +kernel) | (show kitB "str" "tuple" = some false; decide +kernel) | (show kitB "list" "tuple" = some false; decide +kernel) | (show kitB "tuple" "tuple" = some true; decide +kernel) | (show kitB "dict" "tuple" = some false; decide +kernel))
theorem kStr : ∀ d : PyData, kitB (tyN d) "str" = some (isStr d) := fun d => by
  cases d <;> (first | (show kitB "NoneType" "str" = some false; decide +kernel) | (show kitB "bool" "str" = some false; decide +kernel) | (show kitB "int" "str" = some false; decide +kernel) | (show kitB "str" "str" = some true; decide +kernel) | (show kitB "list" "str" = some false; decide +kernel) | (show kitB "tuple" "str" = some false; decide +kernel) | (show kitB "dict" "str" = some false; decide +kernel))
section
variable {K : PySem.W.Frag} {o : List Addr} {ds : List (Option PyData)} {ta tb te : TE} {d e : PyData}
theorem ev_is_int (h : EvD K o ta ds d) : EvD K o (tCB (rIsi K) (tCons ta (tCons (tC (.ty "int")) tNil))) ds (.bool (isInt d)) := ev_isi h (kInt d)
theorem ev_is_bool (h : EvD K o ta ds d) : EvD K o (tCB (rIsi K) (tCons ta (tCons (tC (.ty "bool")) tNil))) ds (.bool (isBool d)) := ev_isi h (kBool d)
theorem ev_is_list (h : EvD K o ta ds d) : EvD K o (tCB (rIsi K) (tCons ta (tCons (tC (.ty "list")) tNil))) ds (.bool (isList d)) := ev_isi h (kList d)
theorem ev_is_tuple (h : EvD K o ta ds d) : EvD K o (tCB (rIsi K) (tCons ta (tCons (tC (.ty "tuple")) tNil))) ds (.bool (isTuple d)) := ev_isi h (kTuple d)
theorem ev_is_str (h : EvD K o ta ds d) : EvD K o (tCB (rIsi K) (tCons ta (tCons (tC (.ty "str")) tNil))) ds (.bool (isStr d)) := ev_isi h (kStr d)
theorem ev_is_list_tuple (h : EvD K o ta ds d) : EvD K o (tCB (rIsiT K) (tCons ta (tCons (tTup (tCons (tC (.ty "list")) (tCons (tC (.ty "tuple")) tNil))) tNil))) ds (.bool (isList d || isTuple d)) := ev_isiT h (kList d) (kTuple d)
theorem ev_is_bool_str (h : EvD K o ta ds d) : EvD K o (tCB (rIsiT K) (tCons ta (tCons (tTup (tCons (tC (.ty "bool")) (tCons (tC (.ty "str")) tNil))) tNil))) ds (.bool (isBool d || isStr d)) := ev_isiT h (kBool d) (kStr d)
theorem ev_isNone (h : EvD K o ta ds d) : EvD K o (tIsN ta) ds (.bool (isNone d)) := by
  have z := ev_isN h
  cases d <;> exact z
end
end Ph
namespace Ph
open PySem PySem.Spec PyProof.Rows L2
theorem sr_to {K : PySem.W.Frag} {o : List Addr} {ds : List (Option PyData)} {ts : TS} {d e : PyData} (h : SvR K o ts ds d) (q : d = e) : SvR K o ts ds e := q ▸ h
end Ph
namespace Ph
open PySem PySem.Spec PyProof.Rows L2
section
variable {K : PySem.W.Frag} {o : List Addr} {ds : List (Option PyData)} {ta tb te : TE} {d e : PyData}
/-- all([..]) -/
theorem ev_allc {wi : TI} {g : TG} {vs : List Nat} {α : Type} (c : α → PyData) {xs : List α} (f : α → Bool) (ds' : α → List (Option PyData)) (hi : EvI K o wi ds (xs.map c)) (hl : xs.length ≤ 1000000) (hw : GtW g vs)
    (hg : ∀ e ∈ xs, GtD K g (wipeD ds vs) (c e) (ds' e)) (he : ∀ e ∈ xs, ∀ o, EvD K o te (ds' e) (.bool (f e))) : EvD K o (tCB (rAll K) (tCons (tLc wi g tYes te vs) tNil)) ds (.bool (xs.all f)) := by
  have z := ev_lcm c (fun e => .bool (f e)) ds' hi hl hw hg he
  have e1 : xs.map (fun e => PyData.bool (f e)) = (xs.map f).map PyData.bool := by rw [List.map_map]; rfl
  rw [e1] at z
  have e2 : xs.all f = (xs.map f).all id := by rw [List.all_map]; rfl
  rw [e2]
  exact ev_cb (ea_cons z ea_nil) cb_all
theorem sn_par {i j : Nat} {ta : TA} {a b : PyData} (h : EvA K o ta ds [a, b]) : SvN K o (tPar i j ta) ds ((ds.set i (some a)).set j (some b)) := fun D σ H E W q =>
  h σ H E W _ fun vs H1 e1 W1 xs => by
    cases xs with
    | cons h1 t =>
      cases t with
      | cons h2 t =>
        cases t
        exact ⟨_, _, rfl, q _ _ e1 W1 (((E.mono (ex_hide e1)).set h1 i).set h2 j)⟩
end
abbrev chg (p : Int × Int) : PyData := .tuple [.int p.1, .int p.2]
abbrev nums (ns : List Int) : PyData := .tuple (ns.map PyData.int)
abbrev his (m : Int) (cs : List (Int × Int)) : PyData := .tuple [.int m, .tuple (cs.map chg)]
end Ph
namespace Ph
open PySem PySem.Spec PyProof.Rows L2
theorem zipD_self : ∀ es : List PyData, zipD es es = es.map fun e => .tuple [e, e]
  | [] => rfl
  | e :: es => by
    have ih := zipD_self es
    unfold zipD at ih ⊢
    rw [List.zip_cons_cons, List.map_cons, List.map_cons, ih]
/-- plain data of bounded depth -/
def okD : Nat → PyData → Prop
  | 0, d => scalD d = true
  | n + 1, .list es => es.length ≤ 1000000 ∧ ∀ e ∈ es, okD n e
  | n + 1, .tuple es => es.length ≤ 1000000 ∧ ∀ e ∈ es, okD n e
  | _ + 1, d => scalD d = true
def R_same : Nat → List PyData → PyData → Prop
  | 0, _, _ => False
  | n + 1, as, d => ∃ a, as = [a, a] ∧ okD n a ∧ d = .bool true
theorem okD_scal {d : PyData} : ∀ {n : Nat}, scalD d = true → okD n d
  | 0, h => h
  | n + 1, h => by cases d <;> first | exact h | cases h
end Ph

namespace Ph
open PySem PySem.Spec PyProof.Rows L2

/-! ### an own error straight over LookupError, its __init__ calling LookupError.__init__ and keeping one field -/
abbrev leM : List Value := [.type "LookupError", .type "Exception", .type "BaseException", .type "object"]
theorem leHas (Y : String) : leM.contains (.type Y) = leM.contains (.type Y) := rfl
/-- what the written part says of such a class at C -/
structure LxC (K : PySem.W.Frag) (C : Addr) : Prop where
  obj : ∃ nm qn N bs sn sub ab col dd v0 v1 v2 v3 v5,
    K.lookup C = some (excClassObj nm qn C N bs leM true sn sub ab col dd v0 v1 v2 v3 v5 "LookupError.__new__")
  sa : PySem.W.findIn K (.ref C) "__setattr__" = some (some (.builtin "object.__setattr__"))
  isE : PySem.W.subIn K (.ref C) (.type "BaseException") = some true
  ty : PySem.W.typeIn K (.ref C) = some (.type "type")
  keep : PySem.W.keepIn K (.ref C) = true
theorem leTy : typeOf (.type "LookupError") = pure (.type "type") := by kernel_rfl
section
open PySem.W PySem.Calls Builtin Builtin.ObjectAttr
variable {prog : Program} {w : World} {A : Around} {R : Result → Shared → Prop}
  {hp : Heap} {g : Array GenState} {dr : Drawn} {tk0 : Nat} {os : OsState}
/-- the first store into such an error: its dict is laid -/
theorem le_store {K : Frag} {name : Str} {tk : Tok} {v : Value} {x C : Addr} {fv : Array Value}
    {nm qn : Str} {N : Addr} {bs : List Value} {sn : List Str} {sb : List Value} {ab : Bool} {co : Option Bool}
    (X : K.In hp) (hx : hp.get? x = some { cls := .ref C, data := .fields fv })
    (hcd : clsIn K C = some { name := nm, bases := bs, mro := .ref C :: leM, ns := N, qualname := qn, hasDict := true, slotNames := sn, subclasses := sb, abstract := ab, collection := co, hasDel := false })
    (ha : findIn K (.ref C) name = some none)
    (hq : ∀ h' t' dx, (∀ b o, b ≠ x → hp.get? b = some o → h'.get? b = some o) → hp.objs.size ≤ dx → dx ≠ x →
      h'.get? x = some { cls := .ref C, dict := some dx, data := .fields fv } →
      h'.Ns1 dx (fun y => if y = name then some v else none) → R (.ok (.ret .none)) ⟨h', g, dr, t', os⟩) :
    codeAny (model prog w) A (.call (.builtin "object.__setattr__") ⟨[.ref x, .str name tk, v], []⟩) R
      ⟨hp, g, dr, tk0, os⟩ := by
  have J : InstAt hp x { cls := .ref C, data := .fields fv } C none := ⟨hx, rfl, rfl, trivial⟩
  have sf := F.store_object
  have far : x ≠ hp.objs.size := Nat.ne_of_lt (Heap.lt_size hx)
  have isO : Looks (model prog w) hp (isInstance (.ref x) (.type "object")) true := by
    refine J.type.andThen (looks_mroIn X ?_)
    unfold mroIn
    rw [hcd, Option.bind_some] <;> rfl
  refine codeAny_call_builtin sf.slot.plain sf.entry ?_
  refine @check_slot (model prog w) _ _ ⟨hp, g, dr, tk0, os⟩ "object.__setattr__" "object" "__setattr__"
    (.ref x) [.str name tk, v] [] _ sf.kind sf.split isO (sf.args (.ref x) (.str name tk) v) ?_
  have m1 : Looks (model prog w) hp (mroOf (.ref C)) (.ref C :: leM) := (looks_clsIn X hcd).andThen .now
  have m2 : Looks (model prog w) hp (storeTaker? none) none := .now
  have m3 := looks_clsIn (M := model prog w) X hcd
  rw [osa_eq, PySem.refuse_eq]
  refine wpAny_bind (wpAny_bind (J.type.at (wpAny_bind (m1.at ?_))))
  rw [refuseLoop_ref, F.store_LookupError.passes]
  refine wpAny_pure (wpAny_bind (J.type.at (wpAny_bind ((looks_findIn X ha).at (wpAny_bind (m2.at ?_))))))
  show wpAny _ _ (storeInOwnDict (.ref x) (.ref C) (.str name tk) name v false) _ _ _
  unfold storeInOwnDict ownDictForStores
  repeat (first
    | with_reducible refine PySem.HandSPX.store_in_new ?_ ?_
    | with_reducible refine wpAny_loadPart_at hx ?_
    | with_reducible refine m3.at ?_
    | wp_step)
  · refine ⟨_, #[], _, (Heap.get?_update_ne _ _ _ _ far.symm).trans (Heap.get?_push_at rfl rfl), rfl, ?_, fun _ => rfl⟩
    intro e he
    exact absurd he (by simp)
  · intro h' t' hn hs
    have hx1 := Heap.get?_push_of_some (h := hp) { cls := .type "dict", data := .dict #[] } hx
    refine hq h' t' hp.objs.size (fun b o hb ho => ?_) (Nat.le_refl _) far.symm ?_ hn
    · refine (hs.2 b (Nat.ne_of_lt (Heap.lt_size ho))).trans ?_
      exact (Heap.get?_update_ne _ _ _ _ hb).trans (Heap.get?_push_of_some _ ho)
    · exact (hs.2 x far).trans (Heap.get?_update_self _ hx1 rfl)
end
end Ph

namespace Ph
open PySem PySem.Spec PyProof.Rows L2
section
variable {X : Cx} {pins : List (Addr × Obj)} {σ : L2.St} {H : Hp} {s : Shared} {a C dx : Addr} {f : Str} {y : V} {u : Value}
  {E : Value → Shared → Prop} {A : Around}
/-- self.f = y on an error that is being made and has no dict -/
theorem lx_field {Q : Unit → Shared → Prop} (T : LxC X.K C) (I : L2.Inv X pins σ H s) (e : H a = some (exo a C none))
    (no : PySem.W.findIn X.K (.ref C) f = some none) (ry : RelV y u)
    (k : ∀ dx s', H dx = none → dx ≠ a →
      L2.Inv X pins σ (upd (upd H dx (exd dx [(f, y)])) a (exo a C (some dx))) s' → Q () s') :
    wpAny (model X.prog X.w) A (setAttr (.ref a) f u) Q E s := by
  obtain ⟨nm, qn, N, bs, sn, sub, ab, col, dd, v0, v1, v2, v3, v5, hC⟩ := T.obj
  have cl : PySem.W.clsIn X.K C = some { name := nm, bases := bs, mro := .ref C :: leM, ns := N, qualname := qn, hasDict := true, slotNames := sn, subclasses := sub, abstract := ab, collection := col, hasDel := false } := by
    unfold PySem.W.clsIn
    rw [hC] <;> rfl
  obtain ⟨t1, ho⟩ := exo_at I.hok e
  obtain ⟨hp, g, d, t, os⟩ := s
  have J0 : PySem.W.InstAt hp a { cls := .ref C, dict := none, data := .fields #[.ref t1, .none, .none, .none, .bool false, .none] } C none := ⟨ho, rfl, rfl, trivial⟩
  refine PySem.W.set_plain I.kIn J0 T.sa (le_store I.kIn ho cl no fun h' t' dx kp fresh ne hx hn => ?_)
  have n0 : H dx = none := I.hok.fresh fresh
  have old : ∀ {b : Addr} {o : Obj}, hp.get? b = some o → b ≠ dx := fun {b o} q =>
    Nat.ne_of_lt (Nat.lt_of_lt_of_le (Heap.lt_size q) fresh)
  have off : ∀ {b : Addr}, H b = none → b ≠ a := fun {b} n z => by
    rw [z, e] at n
    cases n
  have unch : ∀ {b : Addr} {o : HO}, H b = some o → b ≠ a → upd (upd H dx (exd dx [(f, y)])) a (exo a C (some dx)) b = some o := fun {b o} q nb => by
    rw [upd_ne nb, upd_ne (ne_of_none q n0)]
    exact q
  have un : Un X.fs [] H (upd (upd H dx (exd dx [(f, y)])) a (exo a C (some dx))) hp h' :=
    { keep := fun b o q n _ _ => kp b o (off n) q
      slot := fun b o q n _ _ => ⟨o.slots, kp b o (off n) q⟩
      free := fun b o q n _ => by
        rw [upd_ne (off n), upd_ne (old q)]
        exact n
      there := fun b o q _ => if hb : b = a then ⟨_, hb ▸ hx⟩ else ⟨o, kp b o hb q⟩
      tups := fun b xs q => unch q (at_ne e q exo_tup)
      frzs := fun b o v q => unch q (at_ne e q exo_frz)
      tbls := fun b ps q => ⟨#[], by
        rw [unch q (at_ne e q exo_tbl)]
        simp⟩ }
  refine k dx _ n0 ne (I.un (t' := t') un fun b o q => ?_)
  by_cases hb : b = a
  · subst hb
    rw [upd_same] at q
    cases q
    exact exo_ok hx
  · rw [upd_ne hb] at q
    by_cases hd : b = dx
    · subst hd
      rw [upd_same] at q
      cases q
      exact exd_ok hn (relO_put (fs := []) ry fun g => True.intro)
    · rw [upd_ne hd] at q
      refine (I.hok b o q).stay (fun c v hc z => kp c v ?_ z) (fun c hc => unch hc (at_ne e hc exo_own)) fun c xs hc => unch hc (at_ne e hc exo_tup)
      rcases hc with hc | hc
      · rw [hc]
        exact hb
      · exact at_ne e hc exo_own
/-- LookupError.__init__(self, ..) -/
theorem lx_base {us : List Value} {Q : Value → Shared → Prop} (T : LxC X.K C) (I : L2.Inv X pins σ H s) (e : H a = some (exo a C none))
    (hl : us.length ≤ sizeLine) (k : ∀ s', L2.Inv X pins σ H s' → Q .none s') :
    wpAny (model X.prog X.w) A (call (.builtin "LookupError.__init__") (.ref a :: us)) Q E s := by
  obtain ⟨nm, qn, N, bs, sn, sub, ab, col, dd, v0, v1, v2, v3, v5, hC⟩ := T.obj
  obtain ⟨t1, ho⟩ := exo_at I.hok e
  obtain ⟨hp, g, d, t, os⟩ := s
  refine wpAny_call (PySem.HandSPX.init_base PySem.F.excBase_LookupError leHas (I.kIn _ _ hC) ho hl fun h' t2 kp hx => ?_)
  have mu : Mut (H a) := by
    rw [e]
    exact True.intro
  have J := I.write (t' := t) (x := a) (e := a) (o := exo a C none) mu (.inl rfl) kp ⟨_, hx⟩ (exo_ok hx)
  have same : upd H a (exo a C none) = H := funext fun b => if hb : b = a then by rw [hb, upd_same, e] else upd_ne hb
  rw [same] at J
  exact k _ J
end
/-! the readings -/
def tLxI (K : PySem.W.Frag) (ta : TA) : TE := fun σ H Q => ta σ H fun vs H1 =>
  ∃ (a C : Addr) (ws : List V), vs = .ref a :: ws ∧ ws.length ≤ 1000 ∧ LxC K C ∧ H1 a = some (exo a C none) ∧ Q .non H1
def tLxF (K : PySem.W.Frag) (f : Str) (to te : TE) : TS := fun D σ H => te σ H fun y H1 => to σ H1 fun x H2 =>
  ∃ a C : Addr, x = .ref a ∧ LxC K C ∧ PySem.W.findIn K (.ref C) f = some none ∧ H2 a = some (exo a C none) ∧
    ∀ dx, H2 dx = none → dx ≠ a → D.nx σ (upd (upd H2 dx (exd dx [(f, y)])) a (exo a C (some dx)))
section
variable {X : Cx} {o e : Expr} {es : List Expr} {to te : TE} {ta : TA} {f : Str} {p p' p1 p2 pos : Pos}
theorem pe_lxInit {pl : Sem Bool} (hg : Gl X "LookupError") (hm : X.mg "LookupError" = none)
    (vV : PySem.W.findCls X.K (.type "LookupError") (.type "type") "__init__" = some (.val (.builtin "LookupError.__init__")))
    (hv : bootBuiltins "LookupError" = some (.type "LookupError")) (ha : PA X (e :: es) ta)
    (hc : eval (.Call (.Attribute (.Name "LookupError" p1) "__init__" p2) (e :: es) [] pos) X.env = (do
      let ov ← eval (.Name "LookupError" p1) X.env
      standAt p2.atName
      let (f, first) ← holding [ov] (getMethod ov "__init__" pl)
      callWith pos f first (backTo pos (starEach (e :: es) X.env)) (backToKw pos (keywordEach [] X.env))) := by rfl)
    (he : starEach (e :: es) X.env = (false, eval e X.env) :: starEach es X.env := by rfl)
    (hpl : (backTo pos (starEach es X.env)).any (·.1) = false := by rfl) :
    PE X (.Call (.Attribute (.Name "LookupError" p1) "__init__" p2) (e :: es) [] pos) (tLxI X.K ta) := by
  refine ⟨fun pins s σ H Q I h => PySem.W.methodCall_KW (ld_blt I hg hm hv ?_ (by decide) (by decide)) hc⟩
  obtain ⟨m, fr⟩ := I.fr
  refine PySem.W.method_type fr I.ok.mod.kin leTy (by decide +kernel) vV (by decide +kernel) ?_
  show wpAny _ _ (callWith pos (Value.builtin "LookupError.__init__") [] (backTo pos (starEach (e :: es) X.env)) []) _ _ _
  refine PyProof.Rows.callWith_method1 (thn (ha.run pos pins _ σ H _ (I.tok _) h) fun us s1 hh => ?_) he hpl
  obtain ⟨vs, H1, I1, r1, a, C, ws, ev, hl, T, ea, q⟩ := hh
  subst ev
  cases r1 with
  | @cons _ u0 _ ur ra rr =>
    obtain rfl : u0 = Value.ref a := ra
    refine lx_base T I1 ea ?_ fun s' J => ⟨.non, H1, J, rfl, q⟩
    rw [← Paired.length rr, sizeLine_eq]
    omega
theorem ps_lxF (ho : PE X o to) (he : PE X e te) (hs : swapsWith e (some (.Attribute o f p')) pos.line X.env = pure false := by rfl) :
    PS X (.Assign [.Attribute o f p'] e pos) (tLxF X.K f to te) := by
  refine ⟨fun pins s σ H D I h => plainObj_wpAny_Assign_Attribute (thn (he.run pins s σ H _ I h) fun v s1 hh => ?_) hs⟩
  obtain ⟨y, H1, I1, r1, q1⟩ := hh
  refine thn (ho.run pins s1 σ H1 _ I1 q1) fun u s2 hh => ?_
  obtain ⟨x, H2, I2, r2, a, C, ex, T, no, ea, q⟩ := hh
  subst ex
  obtain rfl : u = Value.ref a := r2
  exact lx_field T I2 ea no r1 fun dx s' n ne J => ⟨σ, _, J, q dx n ne⟩
/-- C(e, ..), C's own __init__ keeping sp -/
theorem pmk_lx {ds : List Value} {dvs : List V} {CX : CXT} {x : Str} {C fI : Addr} {k : Nat} {fd : FuncData} {ps : List Str} {sp : Sp}
    (T : LxC X.K C) (iC : PySem.W.findIn X.K (.ref C) "__init__" = some (some (.ref fI))) (tI : PySem.W.typeIn X.K (.ref fI) = some (.type "function"))
    (F1 : FnOk X.prog X.w X.K X.mg X.base CX k fI fd ps sp) (hr : Room (k + 1) X.A) (hb : L2.Binds X.K fd ps ds) (hd : Vals dvs ds)
    (hx : Passes CX X (fun _ _ _ => False)) (hg : Gl X x) (hm : X.mg x = some (.ref C)) (ha : PA X (e :: es) ta)
    (hdb : (x == ("__debug__" : Str)) = false := by decide)
    (he : starEach (e :: es) X.env = (false, eval e X.env) :: starEach es X.env := by rfl)
    (hpl : (backTo pos (starEach es X.env)).any (·.1) = false := by rfl) : PMk X (.Call (.Name x p) (e :: es) [] pos) (tMkO C sp dvs ta) := by
  intro pins s σ H Q I h
  obtain ⟨nm, qn, N, bs, sn, sub, ab, col, dd, v0, v1, v2, v3, v5, hC⟩ := T.obj
  refine wpAny_Call_Name_kw (ld_glob I hg hm ?_ hdb)
  refine PySem.W.callWith_K (h₀ := X.base) I.ok.mod.kin T.keep (thn (ha.run pos pins s σ H _ I h) fun us s1 hh => ?_) he hpl
  obtain ⟨vs, H1, I1, r1, hz, q1⟩ := hh
  refine ⟨I1.kIn, ?_⟩
  show wpAny _ _ (call (.ref C) us) _ _ _
  obtain ⟨hp, g, dr, tk, os⟩ := s1
  have up : hp.objs.size ≤ hp.objs.size + 1 := Nat.le_succ _
  have hq := q1 (hp.objs.size + 1) (I1.hok.fresh up)
  let hp2 := (hp.push (PySem.W.kdv_tup us)).push (PySem.HandSPX.excO C hp.objs.size)
  have kp : ∀ b o, hp.get? b = some o → hp2.get? b = some o := fun b o q => Heap.get?_push_of_some _ (Heap.get?_push_of_some _ q)
  have there : hp2.get? (hp.objs.size + 1) = some (PySem.HandSPX.excO C hp.objs.size) := by
    show ((hp.push (PySem.W.kdv_tup us)).push (PySem.HandSPX.excO C hp.objs.size)).get? (hp.objs.size + 1) = _
    heap_get
  have I2 : L2.Inv X pins σ (upd H1 (hp.objs.size + 1) (exo (hp.objs.size + 1) C none)) ⟨hp2, g, dr, tk, os⟩ :=
    I1.laid (t' := tk) kp up (exo_ok there)
  have r2 := Paired.cons (F := RelV) (a := V.ref (hp.objs.size + 1)) (b := Value.ref (hp.objs.size + 1)) rfl (r1.append hd)
  have len : (Value.ref (hp.objs.size + 1) :: us ++ ds).length = ps.length := by
    have z := Paired.length r2
    rw [F1.len _ _ _ _ hq] at z
    exact z.symm
  have fit : us.length ≤ sizeLine := by
    rw [← Paired.length r1, sizeLine_eq]
    omega
  refine wpAny_call (PySem.HandSPX.call_own PySem.F.excBase_LookupError leHas (I1.kIn _ _ hC) (PySem.W.looks_findIn I1.kIn iC)
    (fun self => PySem.W.bind_fn I1.kIn self tI) fit ?_)
  refine codeAny_mono (F1.run _ X.stack _ _ ⟨Value.ref (hp.objs.size + 1) :: us, []⟩ (Value.ref (hp.objs.size + 1) :: (us ++ ds)) _ _
    (fun _ _ _ => False) (hr.make C us []) (I2.env0.make C us []) (hb _ (Value.ref (hp.objs.size + 1) :: us) I2.kIn len) r2 hq) fun r s' z => ?_
  cases r with
  | error er => exact hx pins σ _ _ er s' I2 z
  | ok fl =>
    cases fl with
    | next => exact False.elim z
    | brk => exact False.elim z
    | cont => exact False.elim z
    | ret u =>
      obtain ⟨v, H2, os2, bare2, un2, hok2, rv, ev, d, fs, ea, ed, hd1, q2⟩ := z
      subst ev
      obtain ⟨h2, g2, d2, t2, os'⟩ := s'
      exact ⟨rv, mk_end (raises_own T.isE T.ty) I1 up kp un2 hok2 os2 bare2 ea ed hd1 q2⟩
end
end Ph

namespace Ph
open PySem PySem.Spec PyProof.Rows L2
section
variable {K : PySem.W.Frag} {o : List Addr} {ds : List (Option PyData)} {ta tb te : TE} {d e : PyData}
/-! more built-ins -/
def rInt : List V → Hp → VK → Prop := fun xs H Q => (∃ i, xs = [.int i] ∧ Q (.int i) H) ∨ ∃ k, xs = [.bl k] ∧ Q (.int (if k then 1 else 0)) H
theorem cb_int {i : Int} : CbD K o rInt [.int i] (.int i) := fun xs H W h Q q => by
  cases h with
  | cons h t =>
    cases t
    rw [dd_int h]
    exact .inl ⟨i, rfl, q _ H (Same.refl H) W (.int _)⟩
theorem cb_intB {b : Bool} : CbD K o rInt [.bool b] (.int (if b then 1 else 0)) := fun xs H W h Q q => by
  cases h with
  | cons h t =>
    cases t
    rw [dd_bool h]
    exact .inr ⟨b, rfl, q _ H (Same.refl H) W (.int _)⟩
def rAbs : List V → Hp → VK → Prop := fun xs H Q => ∃ i, xs = [.int i] ∧ Q (.int (if i < 0 then -i else i)) H
theorem cb_abs {i : Int} : CbD K o rAbs [.int i] (.int (if i < 0 then -i else i)) := fun xs H W h Q q => by
  cases h with
  | cons h t =>
    cases t
    rw [dd_int h]
    exact ⟨i, rfl, q _ H (Same.refl H) W (.int _)⟩
/-! ### the source of draws, an object of its own at u -/
def Urn (H : Hp) (u : Addr) (n : Nat) : Prop := ∃ b c m : Int, H u = some (.lst [.int b, .int c, .int m]) ∧ 0 ≤ b ∧ 0 ≤ c ∧ c < 2 ^ 63 ∧ 0 ≤ m ∧ m ≤ n
theorem Urn.mono {H : Hp} {u : Addr} {n k : Nat} (h : Urn H u n) (l : n ≤ k) : Urn H u k := by
  obtain ⟨b, c, m, e, h1, h2, h3, h4, h5⟩ := h
  exact ⟨b, c, m, e, h1, h2, h3, h4, by omega⟩
theorem Urn.keep {H H' : Hp} {u : Addr} {n : Nat} (h : Urn H u n) (e : H' u = H u) : Urn H' u n := by
  obtain ⟨b, c, m, h0, r⟩ := h
  exact ⟨b, c, m, e.trans h0, r⟩
/-- all but u stands -/
def But (u : Addr) (H H' : Hp) : Prop := ∀ a x, a ≠ u → H a = some x → H' a = some x
/-- what a draw does: from n draws to one more, a number below low -/
def spTake : Sp := fun vs H Q _ => ∃ (u : Addr) (low : Int) (n : Nat), vs = [.ref u, .int low] ∧ Urn H u n ∧ n ≤ 100000 ∧ 1 ≤ low ∧ low ≤ 1000000 ∧
  ∀ (r : Int) (H' : Hp), 0 ≤ r → r < low → But u H H' → Urn H' u (n + 1) → Q (.int r) H'
/-- all data are numbers, truth values, texts: they stand in any heap -/
def flatD : Option PyData → Prop
  | none => True
  | some d => scalD d = true
theorem dd_flat {G G' : Hp} {v : V} {d : PyData} (h : DD K G v d) (s : scalD d = true) : DD K G' v d := by
  cases h with
  | non => exact .non
  | bl b => exact .bl b
  | int i => exact .int i
  | str x => exact .str x
  | lst _ _ => cases s
  | tup _ _ => cases s
  | dct _ _ => cases s
theorem en_flat {G G' : Hp} : ∀ {σ : List (Option V)} {ds : List (Option PyData)}, En K G σ ds → (∀ d ∈ ds, flatD d) → En K G' σ ds
  | _, _, .nil, _ => .nil
  | _, _, .no t, f => .no (en_flat t fun d m => f d (List.mem_cons_of_mem _ m))
  | _, _, .yes h t, f => .yes (dd_flat h (f _ List.mem_cons_self)) (en_flat t fun d m => f d (List.mem_cons_of_mem _ m))
end
end Ph
namespace Ph
open PySem PySem.Spec PyProof.Rows L2
section
variable {K : PySem.W.Frag} {o : List Addr} {ds : List (Option PyData)} {ta tb te ti : TE} {d e : PyData}
/-- x[i] = e, x the list at u -/
theorem st_item {D : Ends} {σ : L2.St} {H : Hp} {iu j : Nat} {u : Addr} {xs : List V} {i : Int} (hu : σ[iu]? = some (some (.ref u))) (he : EvD K o te ds e) (hi : EvD K o ti ds (.int i)) (E : En K (hide H o) σ ds) (W : Owned H o)
    (hx : H u = some (.lst xs)) (hj : ixN xs.length i = some j) (k : ∀ v H1, Ex H H1 → Owned H1 o → DD K (hide H1 o) v e → D.nx σ (upd H1 u (.lst (xs.set j v)))) : tAsg te (gSub (tVar iu) ti rSetL) D σ H :=
  he σ H E W _ fun v H1 e1 W1 x => ⟨.ref u, hu, hi σ H1 (E.mono (ex_hide e1)) W1 _ fun z H2 e2 W2 y => ⟨u, xs, i, j, rfl, dd_int y, e2 _ _ (e1 _ _ hx), hj, k v H2 (e1.trans e2) W2 (x.mono (ex_hide e2))⟩⟩
end
theorem own0 {H : Hp} : Owned H [] := fun a h => by cases h
theorem en0 {K : PySem.W.Frag} {H : Hp} {σ : L2.St} {ds : List (Option PyData)} (h : En K H σ ds) : En K (hide H []) σ ds := by
  rw [hide_nil]
  exact h
end Ph
namespace Ph
open PySem PySem.Spec PyProof.Rows L2
section
variable {K : PySem.W.Frag} {o : List Addr} {i j : Int}
theorem od_mod (h : 0 < j) : OpD K o (rI (fun _ j => 0 < j) fun i j => .int (i % j)) (.int i) (.int j) (.int (i % j)) := od_I h fun _ => .int _
theorem od_mul (h : CMul i j) : OpD K o (rI CMul fun i j => .int (i * j)) (.int i) (.int j) (.int (i * j)) := od_I h fun _ => .int _
theorem od_div (h : CDiv i j) : OpD K o (rI CDiv fun i j => .int (i / j)) (.int i) (.int j) (.int (i / j)) := od_I h fun _ => .int _
theorem od_divW (h : CDivW i j) : OpD K o (rI CDivW fun i j => .int (i / j)) (.int i) (.int j) (.int (i / j)) := od_I h fun _ => .int _
theorem od_pow (h : CPow i j) : OpD K o (rI CPow fun i j => .int (i ^ j.toNat)) (.int i) (.int j) (.int (i ^ j.toNat)) := od_I h fun _ => .int _
end
end Ph
namespace Ph
open PySem PySem.Spec PyProof.Rows L2
section
variable {K : PySem.W.Frag} {o : List Addr} {ds : List (Option PyData)} {te : TE} {d e : PyData} {D : Ends} {σ : L2.St} {H : Hp}
theorem st_set {i : Nat} (E : En K (hide H o) σ ds) (W : Owned H o) (h : EvD K o te ds e) (k : ∀ v H2, Ex H H2 → Owned H2 o → DD K (hide H2 o) v e → D.nx (σ.set i (some v)) H2) : tAsg te (gName i) D σ H := h σ H E W _ k
theorem ss_set {i : Nat} {u : TS} (E : En K (hide H o) σ ds) (W : Owned H o) (h : EvD K o te ds e) (k : ∀ v H2, Ex H H2 → Owned H2 o → DD K (hide H2 o) v e → u D (σ.set i (some v)) H2) : tSeq (tAsg te (gName i)) u D σ H := h σ H E W _ k
theorem ss_if {c : TT} {t t2 u : TS} {b : Bool} (E : En K (hide H o) σ ds) (W : Owned H o) (h : EvB K o c ds b) (k : ∀ H2, Ex H H2 → Owned H2 o → if b = true then t { D with nx := u D } σ H2 else t2 { D with nx := u D } σ H2) : tSeq (tIfS c t t2) u D σ H := h σ H E W _ k
theorem ss_item {u : TS} {ti : TE} {iu j : Nat} {p : Addr} {xs : List V} {i : Int} (E : En K (hide H o) σ ds) (W : Owned H o) (he : EvD K o te ds e) (hi : EvD K o ti ds (.int i)) (hu : σ[iu]? = some (some (.ref p)))
    (hx : H p = some (.lst xs)) (hj : ixN xs.length i = some j) (k : ∀ v H1, Ex H H1 → Owned H1 o → DD K (hide H1 o) v e → u D σ (upd H1 p (.lst (xs.set j v)))) : tSeq (tAsg te (gSub (tVar iu) ti rSetL)) u D σ H :=
  st_item (D := { D with nx := u D }) hu he hi E W hx hj k
theorem st_ret (E : En K (hide H o) σ ds) (W : Owned H o) (h : EvD K o te ds e) (k : ∀ v H2, Ex H H2 → Owned H2 o → DD K (hide H2 o) v e → D.rt v H2) : tRet te D σ H := h σ H E W _ k
theorem st_if {c : TT} {t u : TS} {b : Bool} (E : En K (hide H o) σ ds) (W : Owned H o) (h : EvB K o c ds b) (k : ∀ H2, Ex H H2 → Owned H2 o → if b = true then t D σ H2 else u D σ H2) : tIfS c t u D σ H := h σ H E W _ k
end
end Ph

namespace Ph
open PySem PySem.Spec PyProof.Rows L2

/-- a def that draws: pre of its data, R what may come, k draws at most; the source is its first argument -/
def spU (K : PySem.W.Frag) (m k : Nat) (pre : List PyData → Prop) (R : List PyData → PyData → Prop) : Sp := fun vs H Q _ => ∃ (u : Addr) (n : Nat) (us : List V) (as : List PyData),
  vs = .ref u :: us ∧ Urn H u n ∧ n + k ≤ 100000 ∧ DDs K (hide H [u]) us as ∧ as.length = m ∧ pre as ∧
    ∀ v d H', R as d → Ex (hide H [u]) (hide H' [u]) → Urn H' u (n + k) → DD K (hide H' [u]) v d → Q v H'
theorem urn_own {H : Hp} {u : Addr} {n : Nat} (h : Urn H u n) : Owned H [u] := fun a ha => by
  have e : a = u := by simpa using ha
  obtain ⟨b, c, m, h0, _⟩ := h
  exact ⟨.lst [.int b, .int c, .int m], by rw [e]; exact h0, True.intro⟩
/-- behind some draws, the objects put aside being as they were but for the source -/
structure Dr (H H2 : Hp) (o : List Addr) (u : Addr) (n2 : Nat) : Prop where
  ex : Ex (hide H o) (hide H2 o)
  ow : Owned H2 o
  same : ∀ a ∈ o, a ≠ u → H2 a = H a
  urn : Urn H2 u n2
theorem Dr.trans {H H1 H2 : Hp} {o : List Addr} {u : Addr} {n1 n2 : Nat} (a : Dr H H1 o u n1) (b : Dr H1 H2 o u n2) : Dr H H2 o u n2 :=
  ⟨a.ex.trans b.ex, b.ow, fun c m ne => (b.same c m ne).trans (a.same c m ne), b.urn⟩
theorem Dr.up {H H1 : Hp} {o : List Addr} {u : Addr} {n1 n2 : Nat} (a : Dr H H1 o u n1) (l : n1 ≤ n2) : Dr H H1 o u n2 := ⟨a.ex, a.ow, a.same, a.urn.mono l⟩
theorem Dr.of {H H1 : Hp} {o : List Addr} {u : Addr} {n : Nat} (e : Ex H H1) (W : Owned H o) (U : Urn H u n) : Dr H H1 o u n :=
  ⟨ex_hide e, ow_mono W e, fun a m _ => by
    obtain ⟨x, h, _⟩ := W a m
    rw [h, e _ _ h], by
    obtain ⟨b, c, m, h, r⟩ := U
    exact ⟨b, c, m, e _ _ h, r⟩⟩
/-- where the draws stand: the source is put aside, its name is in slot iu -/
structure At (H : Hp) (o : List Addr) (u : Addr) (iu : Nat) (σ : L2.St) (n : Nat) : Prop where
  mem : u ∈ o
  slot : σ[iu]? = some (some (.ref u))
  urn : Urn H u n
def EvU (K : PySem.W.Frag) (o : List Addr) (u : Addr) (iu : Nat) (te : TE) (ds : List (Option PyData)) (k : Nat) (R : PyData → Prop) : Prop :=
  ∀ σ H n, En K (hide H o) σ ds → Owned H o → At H o u iu σ n → n + k ≤ 100000 → ∀ Q : VK, (∀ v d H2, R d → Dr H H2 o u (n + k) → DD K (hide H2 o) v d → Q v H2) → te σ H Q
def EvAU (K : PySem.W.Frag) (o : List Addr) (u : Addr) (iu : Nat) (ta : TA) (ds : List (Option PyData)) (k : Nat) (R : List PyData → Prop) : Prop :=
  ∀ σ H n, En K (hide H o) σ ds → Owned H o → At H o u iu σ n → n + k ≤ 100000 → ∀ Q : List V → Hp → Prop, (∀ vs es H2, R es → Dr H H2 o u (n + k) → DDs K (hide H2 o) vs es → Q vs H2) → ta σ H Q
section
variable {K : PySem.W.Frag} {o : List Addr} {u : Addr} {iu : Nat} {ds : List (Option PyData)} {ta tb te : TE} {d e : PyData} {R P : PyData → Prop} {k j : Nat}
theorem At.next {H H2 : Hp} {σ : L2.St} {n n2 : Nat} (a : At H o u iu σ n) (d : Dr H H2 o u n2) : At H2 o u iu σ n2 := ⟨a.mem, a.slot, d.urn⟩
theorem eu_pure (h : EvD K o te ds d) : EvU K o u iu te ds 0 (fun x => x = d) := fun σ H n E W A hn Q q =>
  h σ H E W Q fun v H2 e2 W2 x => q v d H2 rfl (Dr.of e2 W A.urn) x
theorem eu_imp (h : EvU K o u iu te ds k R) (i : ∀ d, R d → P d) : EvU K o u iu te ds k P := fun σ H n E W A hn Q q => h σ H n E W A hn Q fun v d H2 r D x => q v d H2 (i d r) D x
theorem eu_more (h : EvU K o u iu te ds j R) (l : j ≤ k) : EvU K o u iu te ds k R := fun σ H n E W A hn Q q =>
  h σ H n E W A (by omega) Q fun v d H2 r D x => q v d H2 r (D.up (by omega)) x
theorem eau_nil : EvAU K o u iu tNil ds 0 (fun es => es = []) := fun σ H n E W A hn Q q => q [] [] H rfl (Dr.of (Same.refl H) W A.urn) .nil
theorem eau_cons {t : TA} {S : List PyData → Prop} (h : EvU K o u iu ta ds k R) (h2 : EvAU K o u iu t ds j S) : EvAU K o u iu (tCons ta t) ds (k + j) (fun es => ∃ d r, es = d :: r ∧ R d ∧ S r) := fun σ H n E W A hn Q q =>
  h σ H n E W A (by omega) _ fun v d H1 r D1 x => h2 σ H1 (n + k) (E.mono D1.ex) D1.ow (A.next D1) (by omega) _ fun vs es H2 s D2 xs =>
    q (v :: vs) (d :: es) H2 ⟨d, es, rfl, r, s⟩ (by rw [← Nat.add_assoc]; exact D1.trans D2) (.cons (x.mono D2.ex) xs)
theorem eu_tup {t : TA} {S : List PyData → Prop} (h : EvAU K o u iu t ds k S) (hl : ∀ es, S es → es.length ≤ sizeLine) : EvU K o u iu (tTup t) ds k (fun d => ∃ es, d = .tuple es ∧ S es) := fun σ H n E W A hn Q q =>
  h σ H n E W A hn _ fun vs es H1 s D1 xs => ⟨by rw [xs.length]; exact hl es s, fun p hp =>
    q _ (.tuple es) _ ⟨es, rfl, s⟩ (D1.trans (Dr.of (ex_new hp) D1.ow D1.urn)) (.tup (SqT.of (hide_new D1.ow hp)) (xs.mono (ex_hide (ex_new hp))))⟩
theorem eu_op {r : R2} {R1 R2' : PyData → Prop} {R : PyData → Prop} (h1 : EvU K o u iu ta ds k R1) (h2 : EvU K o u iu tb ds j R2') (hr : ∀ a b, R1 a → R2' b → ∃ d, R d ∧ OpD K o r a b d) : EvU K o u iu (tOp r ta tb) ds (k + j) R := fun σ H n E W A hn Q q =>
  h1 σ H n E W A (by omega) _ fun v a H1 r1 D1 x => h2 σ H1 (n + k) (E.mono D1.ex) D1.ow (A.next D1) (by omega) _ fun w b H2 r2 D2 y => by
    obtain ⟨d, rd, op⟩ := hr a b r1 r2
    exact op v w H2 D2.ow (x.mono D2.ex) y Q fun z H3 e3 W3 c => q z d H3 rd (by rw [← Nat.add_assoc]; exact D1.trans (D2.trans (Dr.of e3 D2.ow D2.urn))) c
theorem eu_cb {r : List V → Hp → VK → Prop} {t : TA} {S : List PyData → Prop} {R : PyData → Prop} (h : EvAU K o u iu t ds k S) (hr : ∀ es, S es → ∃ d, R d ∧ CbD K o r es d) : EvU K o u iu (tCB r t) ds k R := fun σ H n E W A hn Q q =>
  h σ H n E W A hn _ fun vs es H1 s D1 xs => by
    obtain ⟨d, rd, c⟩ := hr es s
    exact c vs H1 D1.ow xs Q fun v H2 e2 W2 y => q v d H2 rd (D1.trans (Dr.of e2 D1.ow D1.urn)) y
/-! a call of a def that draws -/
def less (o : List Addr) (u : Addr) : List Addr := o.filter fun a => decide (a ≠ u)
theorem mem_less {a : Addr} : a ∈ less o u ↔ a ∈ o ∧ a ≠ u := by
  unfold less
  rw [List.mem_filter, decide_eq_true_eq]
theorem hide_less {H : Hp} (m : u ∈ o) : hide (hide H (less o u)) [u] = hide H o := by
  funext a
  by_cases c : a ∈ o
  · rw [hide_in c]
    by_cases e : a = u
    · exact hide_in (by simp [e])
    · rw [hide_out (by simp [e]), hide_in (mem_less.mpr ⟨c, e⟩)]
  · have c2 : a ∉ less o u := fun z => c (mem_less.mp z).1
    have c3 : a ∉ [u] := fun z => c (by rw [show a = u by simpa using z]; exact m)
    rw [hide_out c, hide_out c3, hide_out c2]
theorem eu_call {m : Nat} {pre : List PyData → Prop} {Rf : List PyData → PyData → Prop} {E : XK} {t : TA} {as : List PyData} (h : EvA K o t ds as) (hm : as.length = m) (hp : pre as) :
    EvU K o u iu (tCall (spHide (spU K m k pre Rf)) [] E (tCons (tVar iu) t)) ds k (Rf as) := fun σ H n En W A hn Q q => by
  refine ⟨.ref u, A.slot, ?_⟩
  refine h σ H En W _ fun vs H1 e1 W1 xs => ?_
  show spHide (spU K m k pre Rf) ((.ref u :: vs) ++ []) H1 Q E
  rw [List.append_nil]
  have D0 := Dr.of e1 W A.urn
  have W2 : Owned H1 (less o u) := fun a ha => W1 a (mem_less.mp ha).1
  have nu : u ∉ less o u := fun z => (mem_less.mp z).2 rfl
  have U2 : Urn (hide H1 (less o u)) u n := D0.urn.keep (hide_out nu)
  refine ⟨less o u, W2, u, n, vs, as, rfl, U2, hn, by rw [hide_less A.mem]; exact xs, hm, hp, fun v d G r ex U3 x g => ?_⟩
  rw [hide_less A.mem] at ex
  -- the heap behind: back H1 (less o u) G
  have eq : hide (back H1 (less o u) G) o = hide G [u] := by
    funext a
    by_cases c : a ∈ o
    · rw [hide_in c]
      by_cases e : a = u
      · exact (hide_in (by simp [e])).symm
      · rw [hide_out (by simp [e]), g a (mem_less.mpr ⟨c, e⟩)]
    · have c2 : a ∉ less o u := fun z => c (mem_less.mp z).1
      have c3 : a ∉ [u] := fun z => c (by rw [show a = u by simpa using z]; exact A.mem)
      rw [hide_out c, hide_out c3, back_out c2]
  have D1 : Dr H1 (back H1 (less o u) G) o u (n + k) := by
    refine ⟨by rw [eq]; exact ex, fun a ha => ?_, fun a ha ne => back_in (mem_less.mpr ⟨ha, ne⟩), U3.keep (back_out nu)⟩
    by_cases e : a = u
    · obtain ⟨b, c, m', h0, _⟩ := U3
      exact ⟨.lst [.int b, .int c, .int m'], by rw [e, back_out nu]; exact h0, True.intro⟩
    · rw [back_in (mem_less.mpr ⟨ha, e⟩)]
      exact W1 a ha
  exact q v d _ r (D0.trans D1) (by rw [eq]; exact x)
end
end Ph

namespace Ph
open PySem PySem.Spec PyProof.Rows L2
section
variable {K : PySem.W.Frag} {o : List Addr} {u : Addr} {iu : Nat} {ds : List (Option PyData)} {ta tb te : TE} {d e : PyData} {R P : PyData → Prop} {k j : Nat}
theorem wipe_get {σ : L2.St} {i : Nat} : ∀ {vs : List Nat}, i ∉ vs → (L2.wipe σ vs)[i]? = σ[i]?
  | [], _ => rfl
  | v :: vs, h => by
    have h1 : v ≠ i := fun e => h (by rw [e]; exact List.mem_cons_self)
    have h2 : i ∉ vs := fun e => h (List.mem_cons_of_mem _ e)
    show ((L2.wipe σ vs).set v none)[i]? = σ[i]?
    rw [List.getElem?_set_ne h1, wipe_get h2]
/-- a target that sets slots of vs alone -/
def GsD (K : PySem.W.Frag) (vs : List Nat) (g : TG) (ds : List (Option PyData)) (e : PyData) (ds' : List (Option PyData)) : Prop :=
  ∀ x σ H o, DD K (hide H o) x e → En K (hide H o) σ ds → ∀ Q : L2.St → Hp → Prop, (∀ σ', L2.wipe σ' vs = L2.wipe σ vs → En K (hide H o) σ' ds' → Q σ' H) → g x σ H Q
theorem gs_name {i : Nat} {vs : List Nat} (h : i ∈ vs) : GsD K vs (gName i) ds e (ds.set i (some e)) := fun x σ H o hx E Q q => q _ (wipe_set h) (E.set hx i)
theorem gs_two {i l : Nat} {vs : List Nat} {a b : PyData} (h : i ∈ vs) (h' : l ∈ vs) : GsD K vs (gTup K 2 (gCons (gName i) (gCons (gName l) gNil))) ds (.tuple [a, b]) ((ds.set i (some a)).set l (some b)) := fun x σ H o hx E Q q => by
  obtain ⟨p, xs, rfl, hq, t⟩ := dd_tup hx
  cases t with
  | cons h1 t =>
    cases t with
    | cons h2 t =>
      cases t
      exact ⟨p, _, rfl, ex_sqT hide_ex hq, rfl, _, _, rfl, _, _, rfl, rfl, q _ (by rw [wipe_set h', wipe_set h]) ((E.set h1 i).set h2 l)⟩
def EiU (K : PySem.W.Frag) (o : List Addr) (u : Addr) (iu : Nat) (wi : TI) (ds : List (Option PyData)) (k : Nat) (S : List PyData → Prop) : Prop :=
  ∀ σ H n, En K (hide H o) σ ds → Owned H o → At H o u iu σ n → n + k ≤ 100000 → ∀ R : It → Hp → Prop, (∀ J H2 es, S es → Dr H H2 o u (n + k) → ItD K (hide H2 o) J es → R J H2) → wi σ H R
theorem eiu_pure {wi : TI} {es : List PyData} (h : EvI K o wi ds es) : EiU K o u iu wi ds 0 (fun x => x = es) := fun σ H n E W A hn R r =>
  h σ H E W R fun J H2 e2 W2 it => r J H2 es rfl (Dr.of e2 W A.urn) it
def rngD (N : Nat) : List PyData := (List.range N).map fun i => .int (0 + (i : Nat))
theorem eiu_rng {M : Nat} (h : EvU K o u iu ta ds k (fun d => ∃ N : Nat, N ≤ M ∧ d = .int N)) (hM : M ≤ 1000000) : EiU K o u iu (iRng1 (tCons ta tNil)) ds k (fun es => ∃ N : Nat, N ≤ M ∧ es = rngD N) := fun σ H n E W A hn R r =>
  h σ H n E W A hn _ fun v d H2 hd D x => by
    obtain ⟨N, hN, rfl⟩ := hd
    refine ⟨N, by rw [dd_int x], ?_, ?_, ?_⟩
    · have h1 : (0 : Int) ≤ (N : Int) := Int.natCast_nonneg _
      exact Int.le_trans (by decide) h1
    · exact Int.lt_of_le_of_lt (show (N : Int) ≤ 1000000 by omega) (by decide)
    · exact r _ H2 (rngD N) ⟨N, hN, rfl⟩ D (by rw [Int.toNat_natCast]; exact it_rng)
/-- [elt for target in iter], draws in both -/
theorem eu_lc {wi : TI} {g : TG} {vs : List Nat} {S : List PyData → Prop} (M : Nat) (ds' : PyData → List (Option PyData)) (hi : EiU K o u iu wi ds k S) (hS : ∀ es, S es → es.length ≤ M) (hM : M ≤ 1000000) (hv : iu ∉ vs)
    (hg : ∀ es, S es → ∀ e ∈ es, GsD K vs g (wipeD ds vs) e (ds' e)) (he : ∀ es, S es → ∀ e ∈ es, ∀ o, EvU K o u iu te (ds' e) j P) :
    EvU K o u iu (tLc wi g tYes te vs) ds (k + M * j) (fun d => ∃ es os, S es ∧ d = .list os ∧ os.length = es.length ∧ ∀ x ∈ os, P x) := fun σ H n E W A hn Q q =>
  hi σ H n E W A (by omega) _ fun J H1 es hs D1 it D nD => by
    have W1 := D1.ow
    have nDo : D ∉ o := ow_new W1 nD
    have nDu : D ≠ u := fun z => nDo (by rw [z]; exact A.mem)
    have hl := hS es hs
    have hG : ∀ {H' : Hp}, Ex (hide H1 o) (hide H' (D :: o)) → ∀ a x, a ∉ D :: o → H1 a = some x → H' a = some x := fun {H'} z a x m e => by
      have y := z a x (by rw [hide_out (fun t => m (List.mem_cons_of_mem _ t))]; exact e)
      rw [hide_out m] at y
      exact y
    refine ⟨fun i m H2 => m = es.length - i ∧ i ≤ es.length ∧ Ex (hide H1 o) (hide H2 (D :: o)) ∧ Owned H2 (D :: o) ∧ (∀ a ∈ o, a ≠ u → H2 a = H1 a) ∧ Urn H2 u (n + k + i * j) ∧ ∃ acc os, H2 D = some (.lst acc) ∧ DDs K (hide H2 (D :: o)) acc os ∧ os.length = i ∧ ∀ x ∈ os, P x, ⟨es.length, ?_⟩, fun i m H2 w => ?_⟩
    · refine ⟨rfl, Nat.zero_le _, fun a x e => ?_, fun a ha => ?_, fun a ha ne => ?_, ?_, [], [], upd_same, .nil, rfl, fun x hx => by cases hx⟩
      · obtain ⟨c, e⟩ := hide_some e
        have na : a ≠ D := ne_of_none e nD
        rw [hide_out (fun m => by rcases List.mem_cons.mp m with m | m; exact na m; exact c m), upd_ne na]
        exact e
      · rcases List.mem_cons.mp ha with rfl | ha
        · exact ⟨_, upd_same, True.intro⟩
        · exact ow_mono W1 (ex_new nD) a ha
      · exact upd_ne (fun z => nDo (by rw [← z]; exact ha))
      · exact (D1.urn.keep (upd_ne (Ne.symm nDu))).mono (by omega)
    · obtain ⟨rfl, hi2, G2, W2, sm2, U2, acc, os, hD, t, lo, hP⟩ := w
      by_cases cl : i < es.length
      · obtain ⟨e, he'⟩ : ∃ e, es[i]? = some e := ⟨_, List.getElem?_eq_getElem cl⟩
        have hm : e ∈ es := List.mem_of_getElem? he'
        obtain ⟨go, yl⟩ := (it H2 (D :: o) G2 W2 i).1 e he'
        have bud : n + k + i * j + j ≤ 100000 := by
          have z : i * j + j ≤ M * j := by
            have z2 : (i + 1) * j ≤ M * j := Nat.mul_le_mul_right j (by omega)
            rw [Nat.add_mul, Nat.one_mul] at z2
            exact z2
          omega
        refine .inr ⟨go, fun H3 => Ex (hide H1 o) (hide H3 (D :: o)) ∧ Owned H3 (D :: o) ∧ (∀ a ∈ o, a ≠ u → H3 a = H1 a) ∧ Urn H3 u (n + k + (i + 1) * j) ∧ ∃ acc os, H3 D = some (.lst acc) ∧ DDs K (hide H3 (D :: o)) acc os ∧ os.length = i + 1 ∧ ∀ x ∈ os, P x, fun H' z => ⟨es.length - (i + 1), by omega, rfl, cl, z⟩, fun x H' y => ?_⟩
        obtain ⟨ex3, hx⟩ := yl x H' y
        have W3 := ow_mono W2 ex3
        have E3 : En K (hide H' (D :: o)) (L2.wipe σ vs) (wipeD ds vs) := ((E.mono D1.ex).mono (G2.trans (ex_hide ex3))).wipe vs
        have ww : L2.wipe (L2.wipe σ vs) vs = L2.wipe σ vs := wipe_wipe fun v hv => hv
        have D3 := Dr.of (u := u) ex3 W2 U2
        refine (show g x (L2.wipe σ vs) H' _ from ?_)
        refine hg es hs e hm x (L2.wipe σ vs) H' (D :: o) hx E3 _ fun σ2 hσ E4 => ⟨hσ.trans ww, ?_⟩
        · unfold tYes
          dsimp only
          rw [if_pos rfl]
          have sl : σ2[iu]? = some (some (.ref u)) := by
            have z1 := wipe_get (σ := σ2) hv
            rw [hσ, ww, wipe_get hv] at z1
            exact z1.symm.trans A.slot
          refine he es hs e hm (D :: o) σ2 H' _ E4 W3 ⟨List.mem_cons_of_mem _ A.mem, sl, D3.urn⟩ bud _ fun y dy H5 hy D5 xy => ?_
          have hD5 : H5 D = some (.lst acc) := (D5.same D List.mem_cons_self nDu).trans (ex3 _ _ hD)
          have hh : hide (upd H5 D (.lst (acc ++ [y]))) (D :: o) = hide H5 (D :: o) := by
            funext a
            by_cases m : a ∈ D :: o
            · rw [hide_in m, hide_in m]
            · rw [hide_out m, hide_out m, upd_ne (fun z => m (by rw [z]; exact List.mem_cons_self))]
          refine ⟨acc, hD5, ?_, ?_, ?_, ?_, ?_, acc ++ [y], os ++ [dy], upd_same, ?_, by rw [List.length_append, lo]; rfl, fun x hx => ?_⟩
          · rw [t.length, lo]
            exact Nat.lt_of_lt_of_le cl (Nat.le_trans (Nat.le_trans hl hM) (by decide))
          · rw [hh]
            exact G2.trans ((ex_hide ex3).trans D5.ex)
          · intro a ha
            by_cases c : a = D
            · exact ⟨.lst (acc ++ [y]), by rw [c, upd_same], True.intro⟩
            · rw [upd_ne c]
              exact D5.ow a ha
          · intro a ha ne
            have c : a ≠ D := fun z => nDo (by rw [← z]; exact ha)
            rw [upd_ne c, D5.same a (List.mem_cons_of_mem _ ha) ne]
            obtain ⟨w, hw2, _⟩ := W2 a (List.mem_cons_of_mem _ ha)
            rw [ex3 _ _ hw2, ← hw2, sm2 a ha ne]
          · have z := D5.urn.keep (upd_ne (Ne.symm nDu) : (upd H5 D (.lst (acc ++ [y]))) u = H5 u)
            exact z.mono (by rw [Nat.add_mul, Nat.one_mul]; omega)
          · rw [hh]
            exact (t.mono ((ex_hide ex3).trans D5.ex)).append (.cons xy .nil)
          · rcases List.mem_append.mp hx with hx | hx
            · exact hP x hx
            · rw [show x = dy by simpa using hx]
              exact hy
      · have ei : i = es.length := by omega
        refine .inl ⟨(it H2 (D :: o) G2 W2 i).2 (by omega), ?_⟩
        have nouter : Ex (hide H2 (D :: o)) (hide H2 o) := fun a x z => by
          obtain ⟨c2, z⟩ := hide_some z
          rw [hide_out (fun m => c2 (List.mem_cons_of_mem _ m))]
          exact z
        refine q _ (.list os) H2 ⟨es, os, hs, rfl, by omega, hP⟩ ?_ (.lst (by rw [hide_out nDo]; exact hD) (t.mono nouter))
        refine D1.trans ⟨G2.trans nouter, fun a ha => W2 a (List.mem_cons_of_mem _ ha), sm2, U2.mono ?_⟩
        have z2 : i * j ≤ M * j := Nat.mul_le_mul_right j (by omega)
        omega
end
end Ph
namespace Ph
open PySem PySem.Spec PyProof.Rows L2
abbrev pre_take : List PyData → Prop := fun as => ∃ low : Int, as = [.int low] ∧ 1 ≤ low ∧ low ≤ 1000000
abbrev R_take : List PyData → PyData → Prop := fun as d => ∃ low r : Int, as = [.int low] ∧ d = .int r ∧ 0 ≤ r ∧ r < low
theorem take_U {P : Program} {w : World} {K : PySem.W.Frag} {mg : Str → Option Value} {base : Heap} {k : Nat} {f : Addr} {fd : FuncData} (F : FnOk P w K mg base CX0 k f fd ["urn", "low_so"] spTake) :
    FnOk P w K mg base CX0 k f fd ["urn", "low_so"] (spU K 1 1 pre_take R_take) := F.imp fun vs H Q E h => by
  obtain ⟨u, n, us, as, rfl, U, hn, t, hl, ⟨low, rfl, l1, l2⟩, q⟩ := h
  cases t with
  | cons h t =>
    cases t
    cases dd_int h
    refine ⟨u, low, n, rfl, U, by omega, l1, l2, fun r H' r0 r1 b U2 => q _ (.int r) H' ⟨low, r, rfl, rfl, r0, r1⟩ (fun a x e => ?_) U2 (.int r)⟩
    obtain ⟨c, e⟩ := hide_some e
    have ne : a ≠ u := fun z => c (by simp [z])
    rw [hide_out c]
    exact b a x ne e
/-- a new source: from cell number k of the list at a -/
def spBox : Sp := fun vs H Q _ => ∃ (a : Addr) (ns : List Int) (k : Nat), vs = [.ref a, .int k] ∧ H a = some (.lst (ns.map V.int)) ∧ k < ns.length ∧ k ≤ 1000 ∧ ∀ u H', Ex H H' → H u = none → Urn H' u 0 → Q (.ref u) H'
def spCells (K : PySem.W.Frag) : Sp := fun vs H Q _ => ∃ (a : Addr) (ns : List Int) (top : Int), vs = [.ref a, .int top] ∧ SqL K H a (ns.map V.int) ∧ ns.length ≤ 63 ∧ 1 ≤ top ∧ top ≤ 1000 ∧
  ∀ p H' ms, Ex H H' → H p = none → H' p = some (.lst ((ms : List Int).map V.int)) → 1 ≤ ms.length → (ms.length : Int) ≤ top → Q (.ref p) H'
abbrev pre_of : List PyData → Prop := fun as => ∃ es, as = [.list es] ∧ 1 ≤ es.length ∧ es.length ≤ 1000000
abbrev R_of : List PyData → PyData → Prop := fun as d => ∃ es, as = [.list es] ∧ d ∈ es
theorem mapGet {ns : List Int} {k : Nat} (h : k < ns.length) : (ns.map PyData.int)[k]? = some (.int ns[k]) := by
  rw [List.getElem?_map, List.getElem?_eq_getElem h]
  rfl
end Ph
namespace Ph
open PySem PySem.Spec PyProof.Rows L2
section
variable {K : PySem.W.Frag} {o : List Addr} {ds : List (Option PyData)} {ta : TA} {es : List PyData} {D : Ends} {σ : L2.St} {H : Hp}
theorem st_retNew (E : En K (hide H o) σ ds) (W : Owned H o) (h : EvA K o ta ds es) (hl : es.length ≤ sizeLine)
    (k : ∀ vs p H1 H2, Ex H H1 → H1 p = none → H2 = upd H1 p (.lst vs) → DDs K (hide H1 o) vs es → D.rt (.ref p) H2) : tRet (tLst ta) D σ H :=
  h σ H E W _ fun vs H1 e1 W1 xs => ⟨by rw [xs.length]; exact hl, fun p hp => k vs p H1 _ e1 hp rfl xs⟩
theorem ss_new {i : Nat} {u : TS} (E : En K (hide H o) σ ds) (W : Owned H o) (h : EvA K o ta ds es) (hl : es.length ≤ sizeLine)
    (k : ∀ vs p H1 H2, Ex H H1 → Owned H1 o → H1 p = none → H2 = upd H1 p (.lst vs) → DDs K (hide H1 o) vs es → u D (σ.set i (some (.ref p))) H2) : tSeq (tAsg (tLst ta) (gName i)) u D σ H :=
  h σ H E W _ fun vs H1 e1 W1 xs => ⟨by rw [xs.length]; exact hl, fun p hp => k vs p H1 _ e1 W1 hp rfl xs⟩
end
end Ph
namespace Ph
theorem b01 (b : Bool) : -(2 ^ 64) < (if b = true then (1 : Int) else 0) ∧ (if b = true then (1 : Int) else 0) < 2 ^ 64 := by cases b <;> decide
theorem b0 (b : Bool) : 0 ≤ (if b = true then (1 : Int) else 0) := by cases b <;> decide
end Ph

namespace Ph
open PySem PySem.Spec PyProof.Rows L2
/-- a block that returns, with draws -/
def SrU (K : PySem.W.Frag) (o : List Addr) (u : Addr) (iu : Nat) (ts : TS) (ds : List (Option PyData)) (k : Nat) (R : PyData → Prop) : Prop :=
  ∀ (D : Ends) σ H n, En K (hide H o) σ ds → Owned H o → At H o u iu σ n → n + k ≤ 100000 → (∀ v d H2, R d → Dr H H2 o u (n + k) → DD K (hide H2 o) v d → D.rt v H2) → ts D σ H
section
variable {K : PySem.W.Frag} {o : List Addr} {u : Addr} {iu : Nat} {ds : List (Option PyData)} {te : TE} {R S : PyData → Prop} {k j : Nat} {D : Ends} {σ : L2.St} {H : Hp} {n : Nat}
theorem su_ret (h : EvU K o u iu te ds k R) : SrU K o u iu (tRet te) ds k R := fun D σ H n E W A hn q => h σ H n E W A hn _ q
/-- x = e, then the rest -/
theorem su_set {i : Nat} {t : TS} {ds' : PyData → List (Option PyData)} (h : EvU K o u iu te ds k S) (ne : i ≠ iu) (hd : ∀ d, ds' d = ds.set i (some d)) (r : ∀ d, S d → SrU K o u iu t (ds' d) j R) : SrU K o u iu (tSeq (tAsg te (gName i)) t) ds (k + j) R := fun D σ H n E W A hn q =>
  h σ H n E W A (by omega) _ fun v d H1 s D1 x => by
    have E1 := (E.mono D1.ex).set x i
    rw [← hd d] at E1
    refine r d s D (σ.set i (some v)) H1 (n + k) E1 D1.ow ⟨A.mem, ?_, D1.urn⟩ (by omega) fun v2 d2 H2 r2 D2 y => q v2 d2 H2 r2 ?_ y
    · rw [List.getElem?_set_ne ne]
      exact A.slot
    · rw [← Nat.add_assoc]
      exact D1.trans D2
theorem su_more (h : SrU K o u iu ts ds j R) (l : j ≤ k) : SrU K o u iu ts ds k R := fun D σ H n E W A hn q =>
  h D σ H n E W A (by omega) fun v d H2 r D2 x => q v d H2 r (D2.up (by omega)) x
theorem su_imp (h : SrU K o u iu ts ds k S) (i : ∀ d, S d → R d) : SrU K o u iu ts ds k R := fun D σ H n E W A hn q => h D σ H n E W A hn fun v d H2 r D2 x => q v d H2 (i d r) D2 x
end
section
variable {P : Program} {w : World} {K : PySem.W.Frag} {mg : Str → Option Value} {base : Heap}
theorem fn_draw {x qual : Str} {st : Stmt} {f : Addr} {fd : FuncData} {N ps : List Str} {l m k : Nat} {pre : List PyData → Prop} {R : List PyData → PyData → Prop} (F : Fun K x qual st f fd) (S : FnScope N ps (defScope st)) (hm : ps.length = m + 1)
    (hbody : ∀ (cdv : Value) (A : Around) (outer : List Env) (s : Shared) (H : Hp) (E : XK), Room l (A.deeper (envOfC qual (defScope st) s.heap.objs.size f cdv)) →
      ∃ t, PSs (cxOf CX0 P w K mg base N qual (defScope st) f cdv A outer s H E).nox (defBody st) t ∧ ∀ u as, as.length = m → pre as → SrU K [u] u 0 t (none :: as.map some ++ List.replicate (N.length - (as.length + 1)) none) k (R as)) :
    FnOk P w K mg base CX0 (l + 1) f fd ps (spU K m k pre R) := by
  refine F.ok S (fun vs H Q E h => ?_) (fun cdv A outer s H vs Q E hr h => ?_)
  · obtain ⟨u, n, us, as, rfl, _, _, t, hl, _⟩ := h
    rw [List.length_cons, t.length, hl, hm]
  · obtain ⟨u, n, us, as, rfl, U, hn, t, hl, hp, q⟩ := h
    obtain ⟨tt, hps, hv⟩ := hbody cdv A outer s H E hr
    refine ⟨tt, hps, ?_⟩
    have z : start N (.ref u :: us) = some (.ref u) :: us.map some ++ List.replicate (N.length - (us.length + 1)) none := rfl
    rw [z, t.length]
    refine hv u as hl hp _ _ H n ?_ (urn_own U) ⟨by simp, rfl, U⟩ hn fun v d H2 r D2 x => q v d H2 r D2.ex D2.urn x
    exact .no (en_start _ t)
end
end Ph
namespace Ph
open PySem PySem.Spec PyProof.Rows L2
theorem rngD_len {N : Nat} : (rngD N).length = N := by
  unfold rngD
  rw [List.length_map, List.length_range]
/-- a draw as a number of turns -/
theorem take_nat {low : Int} {M : Nat} (h : low ≤ (M : Int) + 1) {d : PyData} (r : R_take [.int low] d) : ∃ N : Nat, N ≤ M ∧ d = .int N := by
  obtain ⟨l, x, e, rfl, x0, x1⟩ := r
  cases e
  obtain ⟨N, rfl⟩ := Int.eq_ofNat_of_zero_le x0
  exact ⟨N, by omega, rfl⟩
theorem take_int {low : Int} {d : PyData} (r : R_take [.int low] d) : ∃ x : Int, d = .int x ∧ 0 ≤ x ∧ x < low := by
  obtain ⟨l, x, e, rfl, x0, x1⟩ := r
  cases e
  exact ⟨x, rfl, x0, x1⟩
end Ph

namespace Ph
open PySem PySem.Spec PyProof.Rows L2

/-! ### data without lists: they stand whatever happens to lists -/
def fz : Nat → PyData → Prop
  | 0, d => scalD d = true
  | n + 1, .tuple es => ∀ e ∈ es, fz n e
  | _ + 1, d => scalD d = true
def Fz (d : PyData) : Prop := ∃ n, fz n d
theorem fz_scal {d : PyData} (h : scalD d = true) : Fz d := ⟨0, h⟩
theorem fz_nums {ns : List Int} : Fz (nums ns) := ⟨1, fun e he => by
  obtain ⟨i, _, rfl⟩ := List.mem_map.mp he
  rfl⟩
theorem fz_chg {p : Int × Int} : Fz (chg p) := ⟨1, fun e he => by
  simp only [List.mem_cons, List.not_mem_nil, or_false] at he
  rcases he with rfl | rfl <;> rfl⟩
/-- the tuples of G stand in G' -/
def TK (K : PySem.W.Frag) (G G' : Hp) : Prop := ∀ a xs, SqT K G a xs → SqT K G' a xs
theorem dd_fz {K : PySem.W.Frag} {G G' : Hp} (t : TK K G G') : ∀ (n : Nat) {v : V} {d : PyData}, fz n d → DD K G v d → DD K G' v d
  | 0, v, d, h, x => dd_flat x h
  | n + 1, v, d, h, x => by
    cases x with
    | non => exact .non
    | bl b => exact .bl b
    | int i => exact .int i
    | str y => exact .str y
    | lst _ _ => cases h
    | dct _ _ => cases h
    | @tup a xs ds q r =>
      refine .tup (t _ _ q) ?_
      replace h : ∀ e ∈ ds, fz n e := h
      clear q
      induction ds generalizing xs with
      | nil => cases r; exact .nil
      | cons d ds ih =>
        cases r with
        | cons r1 r2 => exact .cons (dd_fz t n (h _ List.mem_cons_self) r1) (ih r2 fun e m => h e (List.mem_cons_of_mem _ m))
theorem tk_hide {K : PySem.W.Frag} {H : Hp} {o o' : List Addr} (W : Owned H o') : TK K (hide H o) (hide H o') := fun a xs h => by
  rcases h with (h | ⟨ob, h⟩) | h
  · have e := (hide_some h).2
    exact .inl (.inl (by rw [hide_out (owned_ne W e fun z => z)]; exact e))
  · have e := (hide_some h).2
    exact .inl (.inr ⟨ob, by rw [hide_out (owned_ne W e fun z => z)]; exact e⟩)
  · exact .inr h

/-! ### mutable lists and dicts: slots M, at addresses ps -/
/-- what a mutable holds: a list's data; a dict's -/
inductive MC where
  | l (es : List PyData)
  | d (ms : List (PyData × PyData))
  | f (p : Addr) (x : HO)
inductive Ob (K : PySem.W.Frag) (G : Hp) : Addr → HO → MC → Prop
  | l {p : Addr} {vs : List V} {es : List PyData} : DDs K G vs es → Ob K G p (.lst vs) (.l es)
  | d {p : Addr} {kvs : List (Key × V)} {ms : List (PyData × PyData)} : DKs K G kvs ms → Ob K G p (.dK kvs) (.d ms)
  | f {p : Addr} {x : HO} : Aside x → Ob K G p x (.f p x)
section
variable {K : PySem.W.Frag} {G G' : Hp}
theorem Ob.mono {p : Addr} {x : HO} {c : MC} (g : Ex G G') (h : Ob K G p x c) : Ob K G' p x c := by
  cases h with
  | l t => exact .l (t.mono g)
  | d t => exact .d (t.mono g)
  | f t => exact .f t
theorem Ob.aside {p : Addr} {x : HO} {c : MC} (h : Ob K G p x c) : Aside x := by
  cases h <;> first | exact True.intro | assumption
end
abbrev ML := List (Nat × MC)
inductive Mu (K : PySem.W.Frag) (G H : Hp) (σ : L2.St) (B : Hp) (o : List Addr) : ML → List Addr → Prop
  | nil : Mu K G H σ B o [] []
  | cons {i : Nat} {c : MC} {p : Addr} {x : HO} {M : ML} {ps : List Addr} : σ[i]? = some (some (.ref p)) → H p = some x → Ob K G p x c → B p = none → p ∉ o → Mu K G H σ B o M ps → Mu K G H σ B o ((i, c) :: M) (p :: ps)
section
variable {K : PySem.W.Frag} {G G' H H' : Hp} {σ : L2.St} {B : Hp} {o : List Addr}
theorem Mu.at : ∀ {M : ML} {ps : List Addr} {k i : Nat} {c : MC}, Mu K G H σ B o M ps → M[k]? = some (i, c) → ∃ p x, ps[k]? = some p ∧ σ[i]? = some (some (.ref p)) ∧ H p = some x ∧ Ob K G p x c ∧ B p = none ∧ p ∉ o
  | _, _, _, _, _, .nil, h => by simp at h
  | _, _, 0, _, _, .cons (p := p) (x := x) a b c d e _, h => by
    cases Option.some.inj h
    exact ⟨p, x, rfl, a, b, c, d, e⟩
  | _, _, k + 1, _, _, .cons _ _ _ _ _ r, h => by
    obtain ⟨p, x, q, z⟩ := Mu.at (k := k) r (by simpa using h)
    exact ⟨p, x, by simpa using q, z⟩
theorem Mu.own : ∀ {M : ML} {ps : List Addr}, Mu K G H σ B o M ps → ∀ a ∈ ps, ∃ x, H a = some x ∧ Aside x ∧ B a = none ∧ a ∉ o
  | _, _, .nil, a, h => by cases h
  | _, _, .cons (x := x) _ b c d e r, a, h => by
    rcases List.mem_cons.mp h with rfl | h
    · exact ⟨x, b, c.aside, d, e⟩
    · exact Mu.own r a h
theorem Mu.ex (e : Ex H H') (g : Ex G G') : ∀ {M : ML} {ps : List Addr}, Mu K G H σ B o M ps → Mu K G' H' σ B o M ps
  | _, _, .nil => .nil
  | _, _, .cons a b c d f r => .cons a (e _ _ b) (c.mono g) d f (Mu.ex e g r)
theorem Mu.keep (e : ∀ a ∈ (ps : List Addr), H' a = H a) (g : Ex G G') : ∀ {M : ML}, Mu K G H σ B o M ps → Mu K G' H' σ B o M ps := by
  intro M m
  induction m with
  | nil => exact .nil
  | cons a b c d f r ih => exact .cons a ((e _ List.mem_cons_self).trans b) (c.mono g) d f (ih fun a m => e a (List.mem_cons_of_mem _ m))
theorem Mu.slot {j : Nat} {x : Option V} : ∀ {M : ML} {ps : List Addr}, Mu K G H σ B o M ps → (∀ m ∈ M, m.1 ≠ j) → Mu K G H (σ.set j x) B o M ps
  | _, _, .nil, _ => .nil
  | _, _, .cons a b c d e r, h => .cons (by rw [List.getElem?_set_ne (Ne.symm (h _ List.mem_cons_self))]; exact a) b c d e (Mu.slot r fun m hm => h m (List.mem_cons_of_mem _ hm))
theorem Mu.slots {σ' : L2.St} : ∀ {M : ML} {ps : List Addr}, Mu K G H σ B o M ps → (∀ m ∈ M, σ'[m.1]? = σ[m.1]?) → Mu K G H σ' B o M ps
  | _, _, .nil, _ => .nil
  | _, _, .cons a b c d e r, h => .cons ((h _ List.mem_cons_self).trans a) b c d e (Mu.slots r fun m hm => h m (List.mem_cons_of_mem _ hm))
theorem Mu.base {B' : Hp} : ∀ {M : ML} {ps : List Addr}, Mu K G H σ B o M ps → (∀ a ∈ ps, B' a = none) → Mu K G H σ B' o M ps
  | _, _, .nil, _ => .nil
  | _, _, .cons a b c d e r, h => .cons a b c (h _ List.mem_cons_self) e (Mu.base r fun a m => h a (List.mem_cons_of_mem _ m))
theorem Mu.upd {x : HO} {c : MC} {p : Addr} (t : Ob K G p x c) : ∀ {M : ML} {ps : List Addr} {k i : Nat} {e0 : MC}, Mu K G H σ B o M ps → ps.Nodup → M[k]? = some (i, e0) → ps[k]? = some p → Mu K G (upd H p x) σ B o (M.set k (i, c)) ps
  | _, _, _, _, _, .nil, _, h, _ => by simp at h
  | _, _, 0, _, _, .cons (ps := ps) a b _ d e r, nd, h, h2 => by
    cases Option.some.inj h
    cases Option.some.inj h2
    exact .cons a upd_same t d e (r.keep (fun a m => upd_ne fun z => (List.nodup_cons.mp nd).1 (by rw [← z]; exact m)) (Same.refl _))
  | _, _, k + 1, _, _, .cons (p := q) (ps := ps) a b y d e r, nd, h, h2 => by
    have h2 : ps[k]? = some p := by simpa using h2
    have ne : q ≠ p := fun z => (List.nodup_cons.mp nd).1 (z ▸ List.mem_of_getElem? h2)
    exact .cons a (by rw [upd_ne ne]; exact b) y d e (Mu.upd t r (List.nodup_cons.mp nd).2 (by simpa using h) h2)
/-- the slots' data with the mutable lists -/
def fill (ds : List (Option PyData)) : ML → List (Option PyData)
  | [] => ds
  | (i, .l es) :: M => (fill ds M).set i (some (.list es))
  | (i, .d ms) :: M => (fill ds M).set i (some (.dict ms))
  | (_, .f _ _) :: M => fill ds M
theorem en_at {v : V} {d : PyData} {ds : List (Option PyData)} {i : Nat} (E : En K G σ ds) (h : σ[i]? = some (some v)) (x : DD K G v d) : En K G σ (ds.set i (some d)) := by
  have z := E.set x i
  have e : σ.set i (some v) = σ := by
    obtain ⟨l, e⟩ := List.getElem?_eq_some_iff.mp h
    rw [← e, List.set_getElem_self]
  rw [e] at z
  exact z
theorem Mu.fill {ds : List (Option PyData)} (g : Ex G G') (l : ∀ a x, a ∉ o → H a = some x → G' a = some x) : ∀ {M : ML} {ps : List Addr}, Mu K G H σ B o M ps → En K G' σ ds → En K G' σ (Ph.fill ds M) := by
  intro M ps m
  induction m with
  | nil => exact fun E => E
  | cons a b c d e r ih =>
    intro E
    cases c with
    | l t => exact en_at (ih E) a (.lst (l _ _ e b) (t.mono g))
    | d t => exact en_at (ih E) a (.dct (l _ _ e b) (t.mono g))
    | f t => exact ih E
end
structure MS (K : PySem.W.Frag) (B : Hp) (o : List Addr) (M : ML) (ps : List Addr) (σ : L2.St) (H : Hp) (ds : List (Option PyData)) : Prop where
  ex : Ex B (hide H o)
  ow : Owned H o
  en : En K (hide H (ps ++ o)) σ ds
  mu : Mu K (hide H (ps ++ o)) H σ B o M ps
  nd : ps.Nodup
section
variable {K : PySem.W.Frag} {B : Hp} {o ps : List Addr} {M M1 M2 : ML} {σ : L2.St} {H H' : Hp} {ds ds1 ds2 : List (Option PyData)} {ta tb te : TE} {d e : PyData}
theorem MS.owA (s : MS K B o M ps σ H ds) : Owned H (ps ++ o) := fun a ha => by
  rcases List.mem_append.mp ha with h | h
  · obtain ⟨x, e, y, _⟩ := s.mu.own a h
    exact ⟨x, e, y⟩
  · exact s.ow a h
theorem hide_app : Ex (hide H (ps ++ o)) (hide H o) := fun a x h => by
  obtain ⟨c, h⟩ := hide_some h
  rw [hide_out fun m => c (List.mem_append_right _ m)]
  exact h
theorem MS.full (s : MS K B o M ps σ H ds) : En K (hide H o) σ (fill ds M) :=
  s.mu.fill hide_app (fun a x n h => by rw [hide_out n]; exact h) (s.en.mono hide_app)
theorem MS.to (s : MS K B o M ps σ H ds) (e : Ex H H') : MS K B o M ps σ H' ds :=
  ⟨s.ex.trans (ex_hide e), ow_mono s.ow e, s.en.mono (ex_hide e), s.mu.ex e (ex_hide e), s.nd⟩
theorem MS.set (s : MS K B o M ps σ H ds) {v : V} {i : Nat} (x : DD K (hide H (ps ++ o)) v e) (hi : ∀ m ∈ M, m.1 ≠ i) : MS K B o M ps (σ.set i (some v)) H (ds.set i (some e)) :=
  ⟨s.ex, s.ow, s.en.set x i, s.mu.slot hi, s.nd⟩
theorem hide_upd {p : Addr} {x : HO} (h : p ∈ o) : hide (upd H p x) o = hide H o := by
  funext a
  by_cases c : a ∈ o
  · rw [hide_in c, hide_in c]
  · rw [hide_out c, hide_out c, upd_ne fun z => c (by rw [z]; exact h)]
theorem MS.put (s : MS K B o M ps σ H ds) {k i : Nat} {c0 c : MC} {x : HO} {p : Addr} (hk : M[k]? = some (i, c0)) (hp : ps[k]? = some p) (t : Ob K (hide H (ps ++ o)) p x c) : MS K B o (M.set k (i, c)) ps σ (upd H p x) ds := by
  have hm : p ∈ ps := List.mem_of_getElem? hp
  have hh : hide (upd H p x) (ps ++ o) = hide H (ps ++ o) := hide_upd (List.mem_append_left _ hm)
  obtain ⟨x0, q, _, b, n⟩ := s.mu.own p hm
  refine ⟨fun a y h => ?_, fun a ha => ?_, by rw [hh]; exact s.en, by rw [hh]; exact s.mu.upd t s.nd hk hp, s.nd⟩
  · have z := s.ex a y h
    obtain ⟨c, z⟩ := hide_some z
    rw [hide_out c, upd_ne (ne_of_none h b)]
    exact z
  · obtain ⟨z, e, y⟩ := s.ow a ha
    exact ⟨z, by rw [upd_ne (fun z => n (by rw [← z]; exact ha))]; exact e, y⟩
/-- a list becomes data -/
theorem Mu.drop {G : Hp} : ∀ {M : ML} {ps : List Addr} (k : Nat), Mu K G H σ B o M ps → Mu K G H σ B o (M.eraseIdx k) (ps.eraseIdx k)
  | _, _, _, .nil => .nil
  | _, _, 0, .cons a b c d e r => r
  | _, _, k + 1, .cons a b c d e r => .cons a b c d e (Mu.drop k r)
theorem MS.give (s : MS K B o M ps σ H ds) {k i : Nat} {es : List PyData} (hk : M[k]? = some (i, .l es)) : MS K B o (M.eraseIdx k) (ps.eraseIdx k) σ H (ds.set i (some (.list es))) := by
  obtain ⟨p, x, hp, hs, hv, t, b, n⟩ := s.mu.at hk
  obtain ⟨t⟩ := t
  have g : Ex (hide H (ps ++ o)) (hide H (ps.eraseIdx k ++ o)) := fun a x h => by
    obtain ⟨c, h⟩ := hide_some h
    rw [hide_out fun m => c ?_]
    · exact h
    · rcases List.mem_append.mp m with m | m
      · exact List.mem_append_left _ (List.mem_of_mem_eraseIdx m)
      · exact List.mem_append_right _ m
  have pn : p ∉ ps.eraseIdx k ++ o := fun m => by
    rcases List.mem_append.mp m with m | m
    · obtain ⟨l, e⟩ := List.getElem?_eq_some_iff.mp hp
      rw [← e] at m
      obtain ⟨j, hj, e2⟩ := List.mem_eraseIdx_iff_getElem.mp m
      obtain ⟨hj, e2⟩ := e2
      exact hj ((List.getElem_inj s.nd).mp e2)
    · exact n m
  refine ⟨s.ex, s.ow, en_at (s.en.mono g) hs (.lst (by rw [hide_out pn]; exact hv) (t.mono g)), (s.mu.ex (Same.refl _) g).drop k, s.nd.sublist (List.eraseIdx_sublist ..)⟩
end
end Ph

namespace Ph
open PySem PySem.Spec PyProof.Rows L2
section
variable {K : PySem.W.Frag} {o : List Addr} {M M1 M2 : ML} {ds ds1 ds2 : List (Option PyData)} {ta tb te : TE} {d e : PyData}
/-! ### expressions and tests beside mutable lists -/
def EvM (K : PySem.W.Frag) (o : List Addr) (M : ML) (te : TE) (ds : List (Option PyData)) (d : PyData) : Prop :=
  ∀ B ps σ H, MS K B o M ps σ H ds → ∀ Q : VK, (∀ v H2, MS K B o M ps σ H2 ds → Ex H H2 → DD K (hide H2 (ps ++ o)) v d → Q v H2) → te σ H Q
def EbM (K : PySem.W.Frag) (o : List Addr) (M : ML) (tt : TT) (ds : List (Option PyData)) (b : Bool) : Prop :=
  ∀ B ps σ H, MS K B o M ps σ H ds → ∀ Q : Bool → Hp → Prop, (∀ H2, MS K B o M ps σ H2 ds → Ex H H2 → Q b H2) → tt σ H Q
theorem em_pure (h : ∀ O, EvD K O te ds d) : EvM K o M te ds d := fun B ps σ H s Q q => h (ps ++ o) σ H s.en s.owA Q fun v H2 e2 W2 x => q v H2 (s.to e2) e2 x
theorem em_full (h : EvD K o te (fill ds M) d) (f : Fz d) : EvM K o M te ds d := fun B ps σ H s Q q => h σ H s.full s.ow Q fun v H2 e2 W2 x => by
  obtain ⟨n, f⟩ := f
  exact q v H2 (s.to e2) e2 (dd_fz (tk_hide (s.to e2).owA) n f x)
theorem bm_pure {t : TT} {b : Bool} (h : ∀ O, EvB K O t ds b) : EbM K o M t ds b := fun B ps σ H s Q q => h (ps ++ o) σ H s.en s.owA Q fun H2 e2 W2 => q H2 (s.to e2) e2
theorem bm_full {t : TT} {b : Bool} (h : EvB K o t (fill ds M) b) : EbM K o M t ds b := fun B ps σ H s Q q => h σ H s.full s.ow Q fun H2 e2 W2 => q H2 (s.to e2) e2
/-- a list that is laid anew -/
def EvF (K : PySem.W.Frag) (O : List Addr) (te : TE) (ds : List (Option PyData)) (es : List PyData) : Prop :=
  ∀ σ H, En K (hide H O) σ ds → Owned H O → ∀ Q : VK, (∀ p vs H1 H2, Ex H H1 → Owned H1 O → H1 p = none → H2 = upd H1 p (.lst vs) → DDs K (hide H1 O) vs es → Q (.ref p) H2) → te σ H Q
theorem ef_lst {t : TA} {es : List PyData} (h : EvA K o t ds es) (hl : es.length ≤ sizeLine) : EvF K o (tLst t) ds es := fun σ H E W Q q =>
  h σ H E W _ fun vs H1 e1 W1 xs => ⟨by rw [xs.length]; exact hl, fun p hp => q p vs H1 _ e1 W1 hp rfl xs⟩
theorem ef_cat {as bs : List PyData} (h1 : EvD K o ta ds (.list as)) (h2 : EvD K o tb ds (.list bs)) (hl : as.length + bs.length ≤ sizeLine) : EvF K o (tOp rCat ta tb) ds (as ++ bs) := fun σ H E W Q q =>
  h1 σ H E W _ fun v H1 e1 W1 x => h2 σ H1 (E.mono (ex_hide e1)) W1 _ fun u H2 e2 W2 y => by
    obtain ⟨a, xs, rfl, h, t⟩ := dd_lst (x.mono (ex_hide e2))
    obtain ⟨b, ys, rfl, h2, t2⟩ := dd_lst y
    exact ⟨a, b, xs, ys, rfl, rfl, (hide_some h).2, (hide_some h2).2, by rw [t.length, t2.length]; exact hl, fun p hp => q p _ H2 _ (e1.trans e2) W2 hp rfl (t.append t2)⟩
theorem dds_rep {G : Hp} {vs : List V} {es : List PyData} (t : DDs K G vs es) : ∀ n : Nat, DDs K G (List.replicate n vs).flatten (List.replicate n es).flatten
  | 0 => .nil
  | n + 1 => by
    rw [List.replicate_succ, List.replicate_succ, List.flatten_cons, List.flatten_cons]
    exact t.append (dds_rep t n)
theorem ef_rep {as : List PyData} {n : Int} (h1 : EvD K o ta ds (.list as)) (h2 : EvD K o tb ds (.int n)) (n1 : -(2 ^ 63) ≤ n) (n2 : n < 2 ^ 63) (hl : as.length * n.toNat ≤ sizeLine) : EvF K o (tOp rRep ta tb) ds (List.replicate n.toNat as).flatten := fun σ H E W Q q =>
  h1 σ H E W _ fun v H1 e1 W1 x => h2 σ H1 (E.mono (ex_hide e1)) W1 _ fun u H2 e2 W2 y => by
    obtain ⟨a, xs, rfl, h, t⟩ := dd_lst (x.mono (ex_hide e2))
    rw [dd_int y]
    exact ⟨a, n, xs, rfl, rfl, (hide_some h).2, n1, n2, by rw [t.length]; exact hl, fun p hp => q p _ H2 _ (e1.trans e2) W2 hp rfl (dds_rep t _)⟩
theorem ef_lstT {es : List PyData} {t : TE} (h : EvD K o t ds (.tuple es)) : EvF K o (tCB (rLstOf K) (tCons t tNil)) ds es := fun σ H E W Q q =>
  h σ H E W _ fun v H1 e1 W1 x => by
    obtain ⟨a, ys, rfl, hq, r⟩ := dd_tup x
    exact ⟨a, ys, rfl, .inr (ex_sqT hide_ex hq), fun l hl => q l _ H1 _ e1 W1 hl rfl r⟩
theorem ef_lstL {es : List PyData} {t : TE} (h : EvD K o t ds (.list es)) : EvF K o (tCB (rLstOf K) (tCons t tNil)) ds es := fun σ H E W Q q =>
  h σ H E W _ fun v H1 e1 W1 x => by
    obtain ⟨a, ys, rfl, hq, r⟩ := dd_lst x
    exact ⟨a, ys, rfl, .inl (SqL.of (hide_some hq).2), fun l hl => q l _ H1 _ e1 W1 hl rfl r⟩
theorem ev_new {es : List PyData} (h : EvF K o te ds es) : EvD K o te ds (.list es) := fun σ H E W Q q => h σ H E W Q fun p vs H1 H2 e1 W1 hp e2 t => by
  subst e2
  exact q _ _ (e1.trans (ex_new hp)) (ow_mono W1 (ex_new hp)) (.lst (hide_new W1 hp) (t.mono (ex_hide (ex_new hp))))
/-! ### statements -/
def MvN (K : PySem.W.Frag) (o : List Addr) (ts : TS) (M : ML) (ds : List (Option PyData)) (M' : ML) (ds' : List (Option PyData)) : Prop :=
  ∀ B (D : Ends) ps σ H, MS K B o M ps σ H ds → (∀ σ' H' ps', MS K B o M' ps' σ' H' ds' → D.nx σ' H') → ts D σ H
def MvR (K : PySem.W.Frag) (o : List Addr) (ts : TS) (M : ML) (ds : List (Option PyData)) (d : PyData) : Prop :=
  ∀ B (D : Ends) ps σ H, MS K B o M ps σ H ds → (∀ v H', Ex B (hide H' o) → Owned H' o → DD K (hide H' o) v d → D.rt v H') → ts D σ H
theorem mn_seq {t u : TS} (h : MvN K o t M ds M1 ds1) (h2 : MvN K o u M1 ds1 M2 ds2) : MvN K o (tSeq t u) M ds M2 ds2 := fun B D ps σ H s q =>
  h B _ ps σ H s fun σ1 H1 ps1 s1 => h2 B D ps1 σ1 H1 s1 q
theorem mr_seq {t u : TS} (h : MvN K o t M ds M1 ds1) (h2 : MvR K o u M1 ds1 d) : MvR K o (tSeq t u) M ds d := fun B D ps σ H s q =>
  h B _ ps σ H s fun σ1 H1 ps1 s1 => h2 B D ps1 σ1 H1 s1 q
theorem mn_nil : MvN K o tNext M ds M ds := fun B D ps σ H s q => q σ H ps s
theorem mn_set {i : Nat} (h : EvM K o M te ds e) (hi : ∀ m ∈ M, m.1 ≠ i) : MvN K o (tAsg te (gName i)) M ds M (ds.set i (some e)) := fun B D ps σ H s q =>
  h B ps σ H s _ fun v H1 s1 e1 x => q _ H1 ps (s1.set x hi)
theorem mn_asg {g : TG} (h : EvM K o M te ds e) {vs : List Nat} (hg : GsD K vs g ds e ds1) (hi : ∀ m ∈ M, m.1 ∉ vs) : MvN K o (tAsg te g) M ds M ds1 := fun B D ps σ H s q =>
  h B ps σ H s _ fun v H1 s1 e1 x => hg v σ H1 (ps ++ o) x s1.en _ fun σ' hs E' => q _ H1 ps ⟨s1.ex, s1.ow, E', by
    have key : ∀ {M : ML} {qs : List Addr}, Mu K (hide H1 (ps ++ o)) H1 σ B o M qs → (∀ m ∈ M, m.1 ∉ vs) → Mu K (hide H1 (ps ++ o)) H1 σ' B o M qs := by
      intro M qs m
      induction m with
      | nil => intro _; exact .nil
      | cons a b c d f r ih =>
        intro hz
        refine .cons ?_ b c d f (ih fun m hm => hz m (List.mem_cons_of_mem _ hm))
        have z := wipe_get (σ := σ') (hz _ List.mem_cons_self)
        rw [hs, wipe_get (hz _ List.mem_cons_self)] at z
        exact z.symm.trans a
    exact key s1.mu hi, s1.nd⟩
/-- a name for a list laid anew -/
theorem mn_new {i : Nat} {es : List PyData} (h : ∀ O, EvF K O te ds es) (hi : ∀ m ∈ M, m.1 ≠ i) (hl : i < ds.length) : MvN K o (tAsg te (gName i)) M ds ((i, .l es) :: M) (ds.set i none) := fun B D ps σ H s q =>
  h (ps ++ o) σ H s.en s.owA _ fun p vs H1 H2 e1 W1 hp e2 t => by
    subst e2
    have s2 := s.to (e1.trans (ex_new (x := .lst vs) hp))
    have np : p ∉ ps ++ o := ow_new W1 hp
    have g : Ex (hide H1 (ps ++ o)) (hide (upd H1 p (.lst vs)) ((p :: ps) ++ o)) := fun a x z => by
      obtain ⟨c, z⟩ := hide_some z
      have na := ne_of_none z hp
      rw [hide_out fun m => by rcases List.mem_cons.mp m with m | m; exact na m; exact c m, upd_ne na]
      exact z
    refine q _ _ (p :: ps) ⟨s2.ex, s2.ow, ((s.en.mono (ex_hide e1)).mono g).unset i, ?_, List.nodup_cons.mpr ⟨fun m => np (List.mem_append_left _ m), s.nd⟩⟩
    refine .cons ?_ upd_same (.l (t.mono g)) ?_ (fun m => np (List.mem_append_right _ m)) ?_
    · have ll : σ.length = ds.length := by
        have : ∀ {G : Hp} {σ : List (Option V)} {ds : List (Option PyData)}, En K G σ ds → σ.length = ds.length := by
          intro G σ ds E
          induction E with
          | nil => rfl
          | no _ ih => simp [ih]
          | yes _ _ ih => simp [ih]
        exact this s.en
      rw [List.getElem?_set_self (by omega)]
    · cases z : B p with
      | none => rfl
      | some x =>
        have y := e1 _ _ ((hide_some (s.ex p x z)).2)
        rw [hp] at y
        cases y
    · exact ((s.mu.ex e1 (ex_hide e1)).ex (ex_new hp) g).slot hi
theorem mn_forget {t : TS} (i : Nat) (h : MvN K o t M ds M1 ds1) : MvN K o t M ds M1 (ds1.set i none) := fun B D ps σ H s q =>
  h B D ps σ H s fun σ' H' ps' s' => q σ' H' ps' ⟨s'.ex, s'.ow, by
    have z := s'.en
    have key : ∀ {G : Hp} {σ : List (Option V)} {ds : List (Option PyData)} (i : Nat), En K G σ ds → En K G σ (ds.set i none) := by
      intro G σ ds i E
      induction E generalizing i with
      | nil => exact .nil
      | no r ih =>
        cases i with
        | zero => exact .no r
        | succ i => exact .no (ih i)
      | yes a r ih =>
        cases i with
        | zero => exact .no r
        | succ i => exact .yes a (ih i)
    exact key i z, s'.mu, s'.nd⟩
theorem mn_give {t : TS} {k i : Nat} {es : List PyData} (h : MvN K o t M ds M1 ds1) (hk : M1[k]? = some (i, .l es)) : MvN K o t M ds (M1.eraseIdx k) (ds1.set i (some (.list es))) := fun B D ps σ H s q =>
  h B D ps σ H s fun σ' H' ps' s' => q σ' H' _ (s'.give hk)
theorem mn_append {k i : Nat} {es : List PyData} (hk : M[k]? = some (i, .l es)) (h : EvM K o M te ds e) (hl : es.length < sizeLine) : MvN K o (tDrop (tBM K "list" rAppend (tVar i) (tCons te tNil))) M ds (M.set k (i, .l (es ++ [e]))) ds := fun B D ps σ H s q => by
  obtain ⟨p, x0, hp, hs, hv, t, b, n⟩ := s.mu.at hk
  cases t with | @l vs _ t => ?_
  refine ⟨.ref p, hs, .inl ⟨rfl, vs, SqL.of hv⟩, ?_⟩
  refine h B ps σ H s _ fun v H1 s1 e1 x => ⟨p, vs, v, rfl, rfl, e1 _ _ hv, by rw [t.length]; exact hl, ?_⟩
  exact q _ _ ps (s1.put hk hp (.l ((t.mono (ex_hide e1)).append (.cons x .nil))))
theorem mn_item {k i j : Nat} {es : List PyData} {ti : TE} {n : Int} (hk : M[k]? = some (i, .l es)) (h : EvM K o M te ds e) (h2 : EvM K o M ti ds (.int n)) (hj : ixN es.length n = some j) : MvN K o (tAsg te (gSub (tVar i) ti rSetL)) M ds (M.set k (i, .l (es.set j e))) ds := fun B D ps σ H s q => by
  obtain ⟨p, x0, hp, hs, hv, t, b, nn⟩ := s.mu.at hk
  cases t with | @l vs _ t => ?_
  refine h B ps σ H s _ fun v H1 s1 e1 x => ⟨.ref p, hs, ?_⟩
  refine h2 B ps σ H1 s1 _ fun u H2 s2 e2 y => ⟨p, vs, n, j, rfl, dd_int y, e2 _ _ (e1 _ _ hv), by rw [t.length]; exact hj, ?_⟩
  exact q _ _ ps (s2.put hk hp (.l ((t.mono (ex_hide (e1.trans e2))).set (x.mono (ex_hide e2)) j)))
theorem dropLast_take {α : Type} (l : List α) : l.dropLast = l.take (l.length - 1) := List.dropLast_eq_take
theorem mn_pop {k i : Nat} {es : List PyData} (hk : M[k]? = some (i, .l es)) (hl : 0 < es.length) : MvN K o (tDrop (tBM0 K "list" rPop (tVar i))) M ds (M.set k (i, .l es.dropLast)) ds := fun B D ps σ H s q => by
  obtain ⟨p, x0, hp, hs, hv, t, b, n⟩ := s.mu.at hk
  cases t with | @l vs _ t => ?_
  have l := t.length
  refine ⟨.ref p, hs, .inl ⟨rfl, vs, SqL.of hv⟩, p, vs, vs[vs.length - 1]'(by omega), rfl, rfl, hv, List.getElem?_eq_getElem (by omega), ?_⟩
  refine q _ _ ps (s.put hk hp (.l ?_))
  rw [dropLast_take, dropLast_take, l]
  exact t.take _
theorem mn_if {c : TT} {t u : TS} {b : Bool} (h : EbM K o M c ds b) (h1 : b = true → MvN K o t M ds M1 ds1) (h2 : b = false → MvN K o u M ds M1 ds1) : MvN K o (tIfS c t u) M ds M1 ds1 := fun B D ps σ H s q =>
  h B ps σ H s _ fun H1 s1 e1 => by
    cases b with
    | true =>
      refine iteT ?_
      exact h1 rfl B D ps σ H1 s1 q
    | false =>
      refine iteF ?_
      exact h2 rfl B D ps σ H1 s1 q
theorem mr_if {c : TT} {t u : TS} {b : Bool} (h : EbM K o M c ds b) (h1 : b = true → MvR K o t M ds d) (h2 : b = false → MvR K o u M ds d) : MvR K o (tIfS c t u) M ds d := fun B D ps σ H s q =>
  h B ps σ H s _ fun H1 s1 e1 => by
    cases b with
    | true =>
      refine iteT ?_
      exact h1 rfl B D ps σ H1 s1 q
    | false =>
      refine iteF ?_
      exact h2 rfl B D ps σ H1 s1 q
theorem mr_now {t u : TS} (h : MvR K o t M ds d) : MvR K o (tSeq t u) M ds d := fun B D ps σ H s q => h B _ ps σ H s q
theorem mr_ifRet {c : TT} {t u : TS} {b : Bool} (h : EbM K o M c ds b) (h1 : b = true → MvR K o t M ds d) (h2 : b = false → MvR K o u M ds d) : MvR K o (tSeq (tIfS c t tNext) u) M ds d := fun B D ps σ H s q =>
  h B ps σ H s _ fun H1 s1 e1 => by
    cases b with
    | true =>
      refine iteT ?_
      exact h1 rfl B _ ps σ H1 s1 q
    | false =>
      refine iteF ?_
      exact h2 rfl B D ps σ H1 s1 q
/-- return, lists read or not -/
theorem mr_ret (h : EvD K o te (fill ds M) d) : MvR K o (tRet te) M ds d := fun B D ps σ H s q =>
  h σ H s.full s.ow _ fun v H2 e2 W2 x => q v H2 (s.ex.trans (ex_hide e2)) W2 x
theorem mr_to {t : TS} (h : MvR K o t M ds d) (q : d = e) : MvR K o t M ds e := q ▸ h
/-- the slots that are lists at a state -/
theorem MS.base {B B' : Hp} {ps : List Addr} {σ : L2.St} {H : Hp} (s : MS K B o M ps σ H ds) (e : Ex B' B) : MS K B' o M ps σ H ds :=
  ⟨e.trans s.ex, s.ow, s.en, s.mu.base fun a m => by
    obtain ⟨_, _, _, b, _⟩ := s.mu.own a m
    exact e.free b, s.nd⟩
theorem MS.inner {B : Hp} {ps : List Addr} {σ : L2.St} {H : Hp} (s : MS K B o M ps σ H ds) : Ex B (hide H (ps ++ o)) ∧ MS K (hide H (ps ++ o)) o M ps σ H ds := by
  refine ⟨fun a x h => ?_, hide_app, s.ow, s.en, s.mu.base fun a m => hide_in (List.mem_append_left _ m), s.nd⟩
  have z := s.ex a x h
  obtain ⟨c, z⟩ := hide_some z
  rw [hide_out fun m => ?_]
  · exact z
  · rcases List.mem_append.mp m with m | m
    · obtain ⟨_, _, _, b, _⟩ := s.mu.own a m
      rw [h] at b
      cases b
    · exact c m
/-- a for: Im, Id by turns; the mutable lists may be reborn within -/
theorem for_mutG {wi : TI} {g : TG} {tb : TS} {es : List PyData} {B : Hp} {D : Ends} {ps : List Addr} {σ : L2.St} {H : Hp} (Im : Nat → ML) (Id : Nat → List (Option PyData)) (Ok : Nat → Prop) (hi : ∀ R : It → Hp → Prop, (∀ J H2, Ex H H2 → Owned H2 (ps ++ o) → ItD K (hide H2 (ps ++ o)) J es → R J H2) → wi σ H R) (s : MS K B o (Im 0) ps σ H (Id 0)) (ok0 : Ok 0)
    (ht : ∀ i e, es[i]? = some e → Ok i → ∃ dm vs, GsD K vs g (Id i) e dm ∧ (∀ m ∈ Im i, m.1 ∉ vs) ∧ ∀ B' ps σ2 H2 (D' : Ends), Ex B B' → D'.rt = D.rt → D'.bk = D.nx → MS K B' o (Im i) ps σ2 H2 dm → (∀ σ' H' ps', Ok (i + 1) → MS K B' o (Im (i + 1)) ps' σ' H' (Id (i + 1)) → D'.nx σ' H') → tb D' σ2 H2)
    (hn : ∀ σ' H' ps', Ok es.length → MS K B o (Im es.length) ps' σ' H' (Id es.length) → D.nx σ' H') : tFor wi g tb D σ H := by
  refine for_dataG (D := D) hi (fun H1 i σ' H' => Ok i ∧ ∃ ps', MS K (hide H1 (ps ++ o)) o (Im i) ps' σ' H' (Id i)) (fun H1 e1 W1 => ⟨ok0, ps, (s.to e1).inner.2⟩) ?_
  intro H1 e1 W1 i σ' H' p
  obtain ⟨ok, ps', s'⟩ := p
  have xb : Ex B (hide H1 (ps ++ o)) := (s.to e1).inner.1
  refine ⟨ps' ++ o, s'.inner.1, s'.owA, fun e he x H2 e2 hx => ?_, fun hl => ?_⟩
  · obtain ⟨dm, vs, hg, hv, turn⟩ := ht i e he ok
    have s2 := s'.to e2
    refine hg x σ' H2 (ps' ++ o) hx s2.en _ fun σ2 hσ E2 => ?_
    have mu2 : Mu K (hide H2 (ps' ++ o)) H2 σ2 (hide H1 (ps ++ o)) o (Im i) ps' := by
      have key : ∀ {M : ML} {qs : List Addr}, Mu K (hide H2 (ps' ++ o)) H2 σ' (hide H1 (ps ++ o)) o M qs → (∀ m ∈ M, m.1 ∉ vs) → Mu K (hide H2 (ps' ++ o)) H2 σ2 (hide H1 (ps ++ o)) o M qs := by
        intro M qs m
        induction m with
        | nil => intro _; exact .nil
        | cons a b c d f r ih =>
          intro hz
          refine .cons ?_ b c d f (ih fun m hm => hz m (List.mem_cons_of_mem _ hm))
          have z := wipe_get (σ := σ2) (hz _ List.mem_cons_self)
          rw [hσ, wipe_get (hz _ List.mem_cons_self)] at z
          exact z.symm.trans a
      exact key s2.mu hv
    exact turn _ ps' σ2 H2 _ xb rfl rfl ⟨s2.ex, s2.ow, E2, mu2, s2.nd⟩ fun σ4 H4 ps4 k s4 => ⟨k, ps4, s4⟩
  · subst hl
    exact hn σ' H' ps' ok (s'.base xb)
/-- a for: Im, Id by turns; the mutable lists may be reborn within -/
theorem for_mut {wi : TI} {g : TG} {tb : TS} {es : List PyData} {B : Hp} {D : Ends} {ps : List Addr} {σ : L2.St} {H : Hp} (Im : Nat → ML) (Id : Nat → List (Option PyData)) (Ok : Nat → Prop) (hi : ∀ O, EvI K O wi (Id 0) es) (s : MS K B o (Im 0) ps σ H (Id 0)) (ok0 : Ok 0)
    (ht : ∀ i e, es[i]? = some e → Ok i → ∃ dm vs, GsD K vs g (Id i) e dm ∧ (∀ m ∈ Im i, m.1 ∉ vs) ∧ ∀ B' ps σ2 H2 (D' : Ends), Ex B B' → D'.rt = D.rt → D'.bk = D.nx → MS K B' o (Im i) ps σ2 H2 dm → (∀ σ' H' ps', Ok (i + 1) → MS K B' o (Im (i + 1)) ps' σ' H' (Id (i + 1)) → D'.nx σ' H') → tb D' σ2 H2)
    (hn : ∀ σ' H' ps', Ok es.length → MS K B o (Im es.length) ps' σ' H' (Id es.length) → D.nx σ' H') : tFor wi g tb D σ H :=
  for_mutG Im Id Ok (fun R r => hi (ps ++ o) σ H s.en s.owA R r) s ok0 ht hn
theorem mn_for {wi : TI} {g : TG} {tb : TS} {es : List PyData} (Im : Nat → ML) (Id : Nat → List (Option PyData)) (hi : ∀ O, EvI K O wi (Id 0) es)
    (ht : ∀ i e, es[i]? = some e → ∃ dm vs, GsD K vs g (Id i) e dm ∧ (∀ m ∈ Im i, m.1 ∉ vs) ∧ MvN K o tb (Im i) dm (Im (i + 1)) (Id (i + 1))) : MvN K o (tFor wi g tb) (Im 0) (Id 0) (Im es.length) (Id es.length) := fun B D ps σ H s q =>
  for_mut Im Id (fun _ => True) hi s True.intro (fun i e he _ => by
    obtain ⟨dm, vs, hg, hv, h⟩ := ht i e he
    exact ⟨dm, vs, hg, hv, fun B' ps σ2 H2 D' _ _ _ s2 k => h B' D' ps σ2 H2 s2 fun σ' H' ps' s' => k σ' H' ps' True.intro s'⟩) fun σ' H' ps' _ s' => q σ' H' ps' s'
/-- a for one of whose turns may return d; then the rest -/
theorem mr_for {wi : TI} {g : TG} {tb u : TS} {es : List PyData} (Im : Nat → ML) (Id : Nat → List (Option PyData)) (stop : Nat → Bool) (hi : ∀ O, EvI K O wi (Id 0) es)
    (ht : ∀ i e, es[i]? = some e → (∀ j, j < i → stop j = false) → ∃ dm vs, GsD K vs g (Id i) e dm ∧ (∀ m ∈ Im i, m.1 ∉ vs) ∧ (stop i = true → MvR K o tb (Im i) dm d) ∧ (stop i = false → MvN K o tb (Im i) dm (Im (i + 1)) (Id (i + 1))))
    (hu : (∀ i, i < es.length → stop i = false) → MvR K o u (Im es.length) (Id es.length) d) : MvR K o (tSeq (tFor wi g tb) u) (Im 0) (Id 0) d := fun B D ps σ H s q =>
  for_mut (D := { D with nx := u D }) Im Id (fun i => ∀ j, j < i → stop j = false) hi s (fun j hj => absurd hj (Nat.not_lt_zero _)) (fun i e he ok => by
    obtain ⟨dm, vs, hg, hv, h1, h2⟩ := ht i e he ok
    refine ⟨dm, vs, hg, hv, fun B' ps σ2 H2 D' xb er _ s2 k => ?_⟩
    cases cs : stop i with
    | true =>
      refine h1 cs B' D' ps σ2 H2 s2 fun v H' x W y => ?_
      rw [er]
      exact q v H' (xb.trans x) W y
    | false =>
      refine h2 cs B' D' ps σ2 H2 s2 fun σ' H' ps' s' => k σ' H' ps' (fun j hj => ?_) s'
      by_cases z : j < i
      · exact ok j z
      · have : j = i := by omega
        rw [this]
        exact cs) fun σ' H' ps' ok s' => hu ok B D ps' σ' H' s' q
end
section
variable {P : Program} {w : World} {K : PySem.W.Frag} {mg : Str → Option Value} {base : Heap}
theorem fn_mut {x qual : Str} {st : Stmt} {f : Addr} {fd : FuncData} {N ps : List Str} {k n : Nat} {R : List PyData → PyData → Prop} (F : Fun K x qual st f fd) (S : FnScope N ps (defScope st)) (hn : ps.length = n)
    (hbody : ∀ (cdv : Value) (A : Around) (outer : List Env) (s : Shared) (H : Hp) (E : XK), Room k (A.deeper (envOfC qual (defScope st) s.heap.objs.size f cdv)) →
      ∃ t, PSs (cxOf CX0 P w K mg base N qual (defScope st) f cdv A outer s H E).nox (defBody st) t ∧ ∀ as d, as.length = n → R as d → MvR K [] t [] (startD N as) d) : FnOk P w K mg base CX0 (k + 1) f fd ps (spD K n R) := by
  refine F.ok S (fun vs H Q E h => ?_) (fun cdv A outer s H vs Q E hr h => ?_)
  · obtain ⟨as, d, h, hl, _⟩ := h
    rw [h.length, hl, hn]
  · obtain ⟨as, d, h, hl, hR, q⟩ := h
    obtain ⟨t, hp, hv⟩ := hbody cdv A outer s H E hr
    refine ⟨t, hp, ?_⟩
    have z : start N vs = vs.map some ++ List.replicate (N.length - vs.length) none := rfl
    rw [z, h.length]
    refine hv as d hl hR H _ [] _ H ⟨by rw [hide_nil]; exact Same.refl _, own0, by rw [List.append_nil, hide_nil]; exact en_start _ h, .nil, List.nodup_nil⟩ fun v H' e W x => ?_
    rw [hide_nil] at x e
    exact q v H' e x
end
end Ph

namespace Ph
open PySem PySem.Spec PyProof.Rows L2
/-- a tuple, taken once, is itself -/
theorem tuple_once (l : Addr) (items : Array Value) (n : Nat) (dd : Option Addr) (sl : Array (Option Value)) (u : Tok) :
    Meets (Builtin.«tuple.__mul__» ⟨[.ref l, .int 1 u], []⟩) (fun _ R s => s.heap.get? l = some { cls := .type "tuple", dict := dd, data := .seq items n, slots := sl } ∧ R (.ok (.ret (Value.ref l))) s) :=
  .of_wp fun prog w A R s h => by
    obtain ⟨hp, g, d, tk, os⟩ := s
    obtain ⟨hl, h⟩ := h
    have f1 := AutoSeq1.idx_int
    have c0 : (decide ((1 : Int) < -(2 ^ 63)) || decide ((1 : Int) ≥ 2 ^ 63)) = false := by decide
    wp_walk using wpAny_loadPart' hl
    exact ⟨_, rfl, h⟩
/-- a tuple times an int from 1 -/
def rRepA (K : PySem.W.Frag) : R2 := fun x y H Q => ∃ l k xs, x = .ref l ∧ y = .int k ∧ SqT K H l xs ∧ xs ≠ [] ∧ 1 ≤ k ∧ k ≤ 1000 ∧ xs.length ≤ 1000 ∧ (k = 1 → Q (.ref l) H) ∧ (2 ≤ k → ∀ p, H p = none → Q (.ref p) (upd H p (.tup (List.replicate k.toNat xs).flatten)))
theorem op_repA {X : Cx} : OpR X (binaryOp .Mult) (rRepA X.K) := by
  intro pins s σ H x y v u Q I rx ry h
  obtain ⟨l, k, xs, rfl, rfl, hT, hne, h1, h2, hz, q1, q2⟩ := h
  by_cases c : k = 1
  · subst c
    cases rx
    obtain ⟨t, rfl⟩ := ry
    obtain ⟨its, r, ⟨⟨cls, dd, data, sl⟩, ho, hc, n, hd⟩, hs⟩ := I.tuple hT
    simp only at hc hd
    subst hc hd
    exact wpAny_binaryOp_repeat_ref (T := "tuple") (U := "int") (by decide) ⟨_, ho, rfl⟩ (fun s' => typeIs_int s' 1 t) noFill_tuple_mul F.fills_int_mul F.slot_int_rmul repeat_tuple F.slot_int_index.lookup
      (call_meets F.slot_int_rmul (typeIs_int s 1 t) F.entry_int_rmul (F.args_int_rmul_2 _ _) (int_rmul_tuple 1 t l its.toArray n dd sl)
        ⟨ho, rfl, ⟨_, ho, rfl⟩, call_meets F.slot_tuple_mul ⟨_, ho, rfl⟩ F.entry_tuple_mul (F.args_tuple_mul_2 _ _) (tuple_once l its.toArray n dd sl t) ⟨ho, ⟨.ref l, H, I, rfl, q1 rfl⟩⟩⟩)
  · exact op_repT pins s σ H _ _ _ _ Q I rx ry ⟨l, k, xs, rfl, rfl, hT, hne, by omega, h2, hz, q2 (by omega)⟩
section
variable {K : PySem.W.Frag} {o : List Addr} {ds : List (Option PyData)} {ta tb te : TE} {d e : PyData}
theorem od_repA {as : List PyData} {k : Int} (h0 : as ≠ []) (h1 : 1 ≤ k) (h2 : k ≤ 1000) (hl : as.length ≤ 1000) : OpD K o (rRepA K) (.tuple as) (.int k) (.tuple (List.replicate k.toNat as).flatten) := fun x y H W hx hy Q q => by
  obtain ⟨a, xs, rfl, h, t⟩ := dd_tup hx
  rw [dd_int hy]
  have l := t.length
  refine ⟨a, k, xs, rfl, rfl, ex_sqT hide_ex h, fun z => h0 (List.eq_nil_of_length_eq_zero (by rw [← l, z]; rfl)), h1, h2, by omega, fun c => ?_, fun _ p hp => ?_⟩
  · subst c
    refine q _ H (Same.refl H) W ?_
    have e : (List.replicate (1 : Int).toNat as).flatten = as := List.append_nil as
    rw [e]
    exact .tup h t
  · exact q _ _ (ex_new hp) (ow_mono W (ex_new hp)) (.tup (SqT.of (hide_new W hp)) ((dds_rep t _).mono (ex_hide (ex_new hp))))
/-- tuple of one number, taken k times; a list of one number, too -/
theorem flat_one {α : Type} (x : α) : ∀ n : Nat, (List.replicate n [x]).flatten = List.replicate n x
  | 0 => rfl
  | n + 1 => by
    rw [List.replicate_succ, List.replicate_succ, List.flatten_cons, flat_one x n]
    rfl
theorem mn_to {t : TS} {M M1 M2 : ML} {ds1 ds2 : List (Option PyData)} (h : MvN K o t M ds M1 ds1) (a : M1 = M2) (b : ds1 = ds2) : MvN K o t M ds M2 ds2 := a ▸ b ▸ h
theorem bm_to {t : TT} {M : ML} {a b : Bool} (h : EbM K o M t ds a) (e : a = b) : EbM K o M t ds b := e ▸ h
/-! slices -/
theorem dds_cut {G : Hp} {vs : List V} {es : List PyData} (t : DDs K G vs es) (lo hi : Option Int) : DDs K G (cutV vs lo hi) ((es.drop (HT.sIx es.length 0 lo)).take (HT.sIx es.length es.length hi - HT.sIx es.length 0 lo)) := by
  unfold cutV
  rw [t.length]
  exact (t.drop _).take _
/-- xs[i:], xs[:j], i and j numbers of the program -/
theorem ef_slLo {es : List PyData} {i : Int} (h : EvD K o ta ds (.list es)) (h2 : EvD K o tb ds (.int i)) : EvF K o (tSl (rSlL K) ta (tPart tb) tNoPart) ds ((es.drop (HT.sIx es.length 0 (some i))).take (HT.sIx es.length es.length none - HT.sIx es.length 0 (some i))) := fun σ H E W Q q =>
  h σ H E W _ fun v H1 e1 W1 x => h2 σ H1 (E.mono (ex_hide e1)) W1 _ fun u H2 e2 W2 y => ⟨i, dd_int y, by
    obtain ⟨a, ys, rfl, hq, t⟩ := dd_lst (x.mono (ex_hide e2))
    exact ⟨a, ys, rfl, SqL.of (hide_some hq).2, fun p hp => q p _ H2 _ (e1.trans e2) W2 hp rfl (dds_cut t _ _)⟩⟩
theorem ev_neg {i : Int} (h : EvD K o ta ds (.int i)) : EvD K o (tUn (rU fun i => .int (-i)) ta) ds (.int (-i)) := fun σ H E W Q q =>
  h σ H E W _ fun v H1 e1 W1 x => ⟨i, dd_int x, q _ H1 e1 W1 (.int _)⟩
theorem inV_ints (k : Int) : ∀ ns : List Int, inV (.int k) (ns.map V.int) = decide (k ∈ ns)
  | [] => rfl
  | n :: ns => by
    have ih := inV_ints k ns
    unfold inV at ih ⊢
    rw [List.map_cons, List.any_cons, ih]
    show ((n == k) || decide (k ∈ ns)) = _
    by_cases c : k = n
    · subst c
      simp
    · have c2 : (n == k) = false := beq_eq_false_iff_ne.mpr (Ne.symm c)
      rw [c2, Bool.false_or]
      exact decide_eq_decide.mpr ⟨fun h => List.mem_cons_of_mem _ h, fun h => by
        rcases List.mem_cons.mp h with h | h
        · exact absurd h c
        · exact h⟩
theorem flat_ints : ∀ ns : List Int, (ns.map V.int).all flatV = true
  | [] => rfl
  | n :: ns => by rw [List.map_cons, List.all_cons, flat_ints ns]; rfl
theorem od_notIn {k : Int} {ns : List Int} : OpD K o (rIn K true) (.int k) (.list (ns.map PyData.int)) (.bool (!decide (k ∈ ns))) := fun x y H W hx hy Q q => by
  obtain ⟨a, xs, rfl, h, t⟩ := dd_lst hy
  rw [dd_int hx]
  have e := dds_ints t
  subst e
  refine ⟨a, _, rfl, .inl (SqL.of (hide_some h).2), rfl, flat_ints ns, ?_⟩
  rw [if_pos rfl, inV_ints]
  exact q _ H (Same.refl H) W (.bl _)
theorem od_inI {k : Int} {ns : List Int} : OpD K o (rIn K false) (.int k) (.list (ns.map PyData.int)) (.bool (decide (k ∈ ns))) := fun x y H W hx hy Q q => by
  obtain ⟨a, xs, rfl, h, t⟩ := dd_lst hy
  rw [dd_int hx]
  have e := dds_ints t
  subst e
  refine ⟨a, _, rfl, .inl (SqL.of (hide_some h).2), rfl, flat_ints ns, ?_⟩
  rw [if_neg Bool.false_ne_true, inV_ints]
  exact q _ H (Same.refl H) W (.bl _)
theorem ef_slHi {es : List PyData} {i : Int} (h : EvD K o ta ds (.list es)) (h2 : EvD K o tb ds (.int i)) : EvF K o (tSl (rSlL K) ta tNoPart (tPart tb)) ds ((es.drop (HT.sIx es.length 0 none)).take (HT.sIx es.length es.length (some i) - HT.sIx es.length 0 none)) := fun σ H E W Q q =>
  h σ H E W _ fun v H1 e1 W1 x => h2 σ H1 (E.mono (ex_hide e1)) W1 _ fun u H2 e2 W2 y => ⟨i, dd_int y, by
    obtain ⟨a, ys, rfl, hq, t⟩ := dd_lst (x.mono (ex_hide e2))
    exact ⟨a, ys, rfl, SqL.of (hide_some hq).2, fun p hp => q p _ H2 _ (e1.trans e2) W2 hp rfl (dds_cut t _ _)⟩⟩
theorem cut_last {α : Type} (l : List α) : (l.drop (HT.sIx l.length 0 (some (-1)))).take (HT.sIx l.length l.length none - HT.sIx l.length 0 (some (-1))) = l.drop (l.length - 1) := by
  have e : HT.sIx l.length 0 (some (-1)) = l.length - 1 := by
    unfold HT.sIx
    simp
    omega
  have e2 : HT.sIx l.length l.length none = l.length := rfl
  rw [e, e2]
  exact List.take_of_length_le (by rw [List.length_drop]; omega)
end
end Ph

namespace PySem
namespace HandSPX
open Builtin Builtin.ObjectAttr
section
variable {M : Model} {A : Around} {E : Value → Shared → Prop} {h : Heap} {g : Array GenState} {d : Drawn} {t : Nat} {os : OsState}
variable {nm q : Str} {C N : Addr} {bs bm bmB : List Value} {hdct : Bool} {sn : List Str} {sub : List Value} {ab : Bool} {col : Option Bool} {dd : Option Addr} {k0 k1 k2 k3 k5 : Option Value} {B newId initId : String}
theorem check_new_ownK (F : ExcBaseFacts B newId initId bmB) (hT : ∀ X : String, bm.contains (.type X) = bmB.contains (.type X)) {rest : List Value} {kw : List (Str × Value)} {Q : Unit → Shared → Prop}
    (hC : h.get? C = some (excClassObj nm q C N bs bm hdct sn sub ab col dd k0 k1 k2 k3 k5 newId)) (hq : Q () ⟨h, g, d, t, os⟩) : wpAny M A (checkBuiltinCall newId ⟨.ref C :: rest, kw⟩) Q E ⟨h, g, d, t, os⟩ := by
  have hcont : (Value.ref C :: bm).contains (.type B) = true := by rw [List.contains_cons, hT, F.hasB, Bool.or_true]
  have hstar := F.noStar
  simp only [checkBuiltinCall, F.newKind, F.newSplit, F.newRow]
  repeat (first | refine wpAny_loadPart_at hC ?_ | (refine wpAny_isSubtype_exc hC ?_; rw [hcont]) | refine wpAny_staticBase_exc hC ?_ | refine wpAny_madeBy_exc hC ?_ | simp only [bne_self_eq_false, Bool.false_eq_true, if_false] | wp_step)
  exact hq
end
section
variable {prog : Program} {w : World} {A : Around} {E : Value → Shared → Prop} {R : Result → Shared → Prop} {h : Heap} {g : Array GenState} {d : Drawn} {t : Nat} {os : OsState}
variable {nm q : Str} {C N : Addr} {bs bm bmB : List Value} {hdct : Bool} {sn : List Str} {sub : List Value} {ab : Bool} {col : Option Bool} {dd : Option Addr} {k0 k1 k2 k3 k5 : Option Value} {B newId initId : String}
theorem new_ownK (F : ExcBaseFacts B newId initId bmB) (hT : ∀ X : String, bm.contains (.type X) = bmB.contains (.type X)) {rest : List Value} {kw : List (Str × Value)}
    (hC : h.get? C = some (excClassObj nm q C N bs bm hdct sn sub ab col dd k0 k1 k2 k3 k5 newId))
    (hq : R (.ok (.ret (.ref (h.objs.size + 1)))) ⟨(h.push { cls := .type "tuple", data := .seq rest.toArray }).push
      { cls := .ref C, data := .fields #[.ref h.objs.size, .none, .none, .none, .bool false, .none] }, g, d, t, os⟩) (hrest : rest.length ≤ sizeLine) :
    codeAny (model prog w) A (.builtin newId ⟨.ref C :: rest, kw⟩) R ⟨h, g, d, t, os⟩ := by
  have hends := F.ends
  have hcB : (Value.ref C :: bm).contains (.type B) = true := by rw [List.contains_cons, hT, F.hasB, Bool.or_true]
  have hcA : (Value.ref C :: bm).contains (.type "AttributeError") = false := by rw [List.contains_cons, hT, F.noAttr]; rfl
  have hcN : (Value.ref C :: bm).contains (.type "NameError") = false := by rw [List.contains_cons, hT, F.noName]; rfl
  refine codeAny_builtinAt F.entry ?_
  unfold Builtin.«BaseException.__new__»
  refine wpAt_bind ?_
  show wpAt _ _ _ (stack >>= _) _ _ _
  refine wpAt_bind (wpAt_stack fun p below => wpAt_of_wpAny ?_)
  wp_walk
  refine wpAt_of_wpAny ?_
  rw [F.owner]
  repeat (first | with_reducible refine wpAny_madeHere_exc F.canon hC ?_ | with_reducible refine wpAny_loadPart_at hC ?_ | (with_reducible refine wpAny_isSubtype_exc hC ?_; first | rw [hcB] | rw [hcA] | rw [hcN]) | wp_step)
  show R _ _
  rw [Heap.size_push]
  exact hq
theorem type_call_ownK (F : ExcBaseFacts B newId initId bmB) (hT : ∀ X : String, bm.contains (.type X) = bmB.contains (.type X)) {rest : List Value} {kw : List (Str × Value)} {fI : Addr} {Q : Fin → Shared → Prop}
    (hC : h.get? C = some (excClassObj nm q C N bs bm hdct sn sub ab col dd k0 k1 k2 k3 k5 newId))
    (hi : W.Looks (model prog w) h (typeLookup (.ref C) "__init__") (some (.ref fI))) (hb : ∀ self, W.Looks (model prog w) h (bindSpecial (.ref fI) self) (.ref fI, [self])) (hrest : rest.length ≤ sizeLine)
    (hq : codeAny (model prog w) A (.call (.ref fI) ⟨.ref (h.objs.size + 1) :: rest, kw⟩)
      (fun r s' => match r with | .ok (.ret v) => v = .none ∧ Q (.done (.ret (.ref (h.objs.size + 1)))) s' | .ok _ => False | .error e => E e s')
      ⟨(h.push (W.kdv_tup rest)).push (excO C h.objs.size), g, d, t, os⟩) :
    wpAny (model prog w) A (Builtin.«type.__call__» ⟨.ref C :: rest, kw⟩) Q E ⟨h, g, d, t, os⟩ := by
  repeat (first | with_reducible refine wpAny_loadPart_at hC ?_ | with_reducible refine wpAny_madeBy_exc hC ?_ | wp_step)
  refine codeAny_call_builtin_code (Code.quiet_builtin _ F.quiet) (check_new_ownK F hT hC ?_)
  refine new_ownK F hT hC ?_ hrest
  show wpAny _ _ _ _ _ _
  have k : ∀ b o, h.get? b = some o → ((h.push (W.kdv_tup rest)).push (excO C h.objs.size)).get? b = some o := fun b o e => Heap.get?_push_of_some _ (Heap.get?_push_of_some _ e)
  have hC₁ := k _ _ hC
  have hget : ((h.push (W.kdv_tup rest)).push (excO C h.objs.size)).get? (h.objs.size + 1) = some (excO C h.objs.size) := by heap_get
  have hcC : (Value.ref C :: bm).contains (.ref C) = true := by simp
  have i1 := hi.keeps k
  have b1 := (hb (.ref (h.objs.size + 1))).keeps k
  unfold isInstance
  repeat (first | with_reducible refine wpAny_loadPart_at hget ?_ | (with_reducible refine wpAny_isSubtype_exc hC₁ ?_; rw [hcC]) | wp_step)
  show wpAny _ _ (typeLookup (.ref C) _) _ _ _
  refine i1.at ?_
  refine wpAny_holding (wpAny_bind (b1.at ?_))
  refine wpAny_bind (wpAny_call (codeAny_mono hq fun r s' z => ?_))
  rcases r with e | (v | _ | _ | _) <;> first | exact z | exact z.elim | skip
  obtain ⟨rfl, z⟩ := z
  first
    | exact wpAny_pure (wpAny_pure z)
    | (wp_walk; exact z)
theorem call_ownK (F : ExcBaseFacts B newId initId bmB) (hT : ∀ X : String, bm.contains (.type X) = bmB.contains (.type X)) {rest : List Value} {kw : List (Str × Value)} {fI : Addr}
    (hC : h.get? C = some (excClassObj nm q C N bs bm hdct sn sub ab col dd k0 k1 k2 k3 k5 newId))
    (hi : W.Looks (model prog w) h (typeLookup (.ref C) "__init__") (some (.ref fI))) (hb : ∀ self, W.Looks (model prog w) h (bindSpecial (.ref fI) self) (.ref fI, [self])) (hrest : rest.length ≤ sizeLine)
    (hq : codeAny (model prog w) (A.under (.builtin "type.__call__" ⟨.ref C :: rest, kw⟩)) (.call (.ref fI) ⟨.ref (h.objs.size + 1) :: rest, kw⟩) (W.InitBack (h.objs.size + 1) R)
      ⟨(h.push (W.kdv_tup rest)).push (excO C h.objs.size), g, d, t, os⟩) :
    codeAny (model prog w) A (.call (.ref C) ⟨rest, kw⟩) R ⟨h, g, d, t, os⟩ := by
  have f1 := tc_lookup
  have f2 := tc_bind (.ref C)
  have hTy : (⟨h, g, d, t, os⟩ : Shared).TypeIs (.ref C) "type" := ⟨_, hC, rfl⟩
  refine codeAny_of_tree ?_
  show wpAny _ _ (callAny (.ref C) _) _ _ _
  repeat (any_goals (first | assumption | with_reducible refine wpAny_loadPart_at hC ?_ | wp_step))
  refine ⟨rfl, ?_⟩
  refine codeAny_call_builtin_at (Code.quiet_builtin _ (by decide +kernel)) entry_typeCall (wpAny_check_type_call_sub hC (type_call_ownK F hT hC hi hb hrest ?_))
  refine codeAny_mono hq fun r s' z => ?_
  rcases r with e | (v | _ | _ | _) <;> exact z
end
end HandSPX
end PySem

namespace PySem.W
open PySem PySem.Spec PySem.Calls PyProof.Rows
section
variable {prog : Program} {w : World} {A : Around} {E : Value → Shared → Prop} {s : Shared} {K : Frag} {x D : Addr} {ox : Obj} {od : Option Obj}
theorem ph_findObj {C : Addr} {name : Str} {a g : Value} (hc : (clsIn K C).isSome = true) (ha : findIn K (.ref C) name = some (some a)) (hg : specialIn K a "__get__" = some (some g)) (ht : takesIn K a = some true) : findObj K C od name = some (.bind g a) := by
  obtain ⟨cd, hc⟩ := Option.isSome_iff_exists.mp hc
  unfold findObj
  rw [hc, Option.bind_some, ha, Option.bind_some]
  simp [hg, ht]
theorem ph_kin_class {Q : Option Value → Shared → Prop} (hga : findIn K (.ref D) "__getattribute__" = some (some (.builtin "BaseException.__getattribute__"))) (hgt : findIn K (.ref D) "__getattr__" = some none) (hsub : subIn K (.ref D) (.type "BaseException") = some true)
    (hdct : hasDictIn K D = true) (ha : findIn K (.ref D) "__class__" = some (some (.builtin "object.__class__")))
    (hn : specialIn K (.builtin "object.__class__") "__get__" = some (some (.builtin "getset_descriptor.__get__"))) (htk : takesIn K (.builtin "object.__class__") = some true) (hm : mroIn K D (.type "object") = some true)
    (X : K.In s.heap) (I : InstAt s.heap x ox D od) (h : Q (some (.ref D)) { s with toks := s.toks + 1 }) : wpAny (model prog w) A (getAttr? (.ref x) "__class__") Q E s := by
  have hf : findObj K D od "__class__" = some (.bind (.builtin "getset_descriptor.__get__") (.builtin "object.__class__")) := ph_findObj (by obtain ⟨cd, hc, _⟩ := any_some hdct; rw [hc]; rfl) ha hn htk
  obtain ⟨hp, g, d, t, os⟩ := s
  have L0 := I.type (M := model prog w)
  have L1 := looks_findIn (M := model prog w) X hga
  have L2 := looks_findIn (M := model prog w) X hgt
  have L3 := looks_find (M := model prog w) X I hf
  have sub : Looks (model prog w) hp (isInstance (.ref x) (.type "BaseException")) true := L0.andThen (looks_subIn X hsub)
  have hx0 : (false && onTheHeap (Value.builtin "BaseException.__getattribute__")) = false := rfl
  have hx2 : (Value.builtin "BaseException.__getattribute__" == Value.builtin "object.__getattribute__") = false := by decide +kernel
  have hx1 : (onTheHeap (Value.ref D) && Value.builtin "BaseException.__getattribute__" == Value.builtin "object.__getattribute__") = false := by rw [hx2]; rfl
  unfold getAttr? getAttrBy? getAttrBy
  refine wpAny_bind (wpAny_mkText (wpAny_bind (wpAny_attempt (wpAny_holding (wpAny_bind (L0.at (wpAny_bind (L1.at ?_))))))))
  show wpAny _ _ (if (onTheHeap (Value.ref D) && Value.builtin "BaseException.__getattribute__" == Value.builtin "object.__getattribute__") = true then _ else _) _ _ _
  rw [hx1, if_neg Bool.false_ne_true]
  unfold getAttrByItsOwn hookBefore
  refine wpAny_bind ?_
  rw [if_pos (show onTheHeap (Value.ref D) = true from rfl)]
  refine L2.at ?_
  refine wpAny_bind (wpAny_attempt (wpAny_holding ?_))
  unfold callGetattribute
  rw [hx0, if_neg Bool.false_ne_true]
  unfold boundAndCalled
  rw [PySem.F.excAttr_ValueError.ga.bind (.ref x)]
  refine wpAny_bind (wpAny_pure ?_)
  show wpAny _ _ (call (.builtin "BaseException.__getattribute__") [.ref x, .str "__class__" t]) _ _ _
  refine wpAny_call (codeAny_call_builtin PySem.F.excAttr_ValueError.ga.plain PySem.F.entry_bexc_ga ?_)
  refine @check_slot (model prog w) _ _ ⟨hp, g, d, t + 1, os⟩ "BaseException.__getattribute__" "BaseException" "__getattribute__" (.ref x) [.str "__class__" t] [] _ (by decide +kernel) (by decide +kernel) sub (PySem.F.args_bexc_ga (.ref x) (.str "__class__" t)) ?_
  unfold Builtin.«object.__getattribute__»
  refine wpAny_bind (wpAny_of_eq (a := ((Value.ref x : Value), [Value.str "__class__" t])) (by first | rfl | (simp only [slotArgs]; rfl)) ?_)
  refine wpAny_bind (wpAny_pure (wpAny_bind (L0.at (wpAny_bind (L3.at ?_)))))
  show wpAny _ _ (holding [Value.builtin "object.__class__"] (call (.builtin "getset_descriptor.__get__") [.builtin "object.__class__", .ref x, .ref D]) >>= ret) _ _ _
  refine wpAny_bind (wpAny_holding (wpAny_call (class_get (s := ⟨hp, g, d, t + 1, os⟩) (ox := ox) (od := od) X I hm ?_)))
  refine wpAny_pure ?_
  show wpAny _ _ (handedOut (.ref D)) _ _ _
  rw [handedOut_of (v := .ref D) rfl]
  first
    | exact wpAny_pure (wpAny_pure h)
    | exact wpAny_pure h
    | exact wpAny_pure (wpAny_bind (wpAny_pure (wpAny_pure h)))
theorem ph_kitx_exc (hga : findIn K (.ref D) "__getattribute__" = some (some (.builtin "BaseException.__getattribute__"))) (hgt : findIn K (.ref D) "__getattr__" = some none) (hsub : subIn K (.ref D) (.type "BaseException") = some true) (hdct : hasDictIn K D = true) (ha : findIn K (.ref D) "__class__" = some (some (.builtin "object.__class__")))
    (hn : specialIn K (.builtin "object.__class__") "__get__" = some (some (.builtin "getset_descriptor.__get__"))) (htk : takesIn K (.builtin "object.__class__") = some true) (hm : mroIn K D (.type "object") = some true) :
    KitX K (.ref x) (.ref D) (fun h => InstAt h x ox D od) where
  ty := fun _ _ _ I => I.type
  it := fun _ _ X _ => by
    obtain ⟨cdD, hcD, _⟩ := any_some hdct
    unfold clsIn at hcD
    split at hcD
    · rename_i c' d' cd' sl' ho
      intro A' Q' E' s' k q
      unfold isType loadHead
      exact wpAny_bind (wpAny_loadPart (k _ _ (X _ _ ho)) (wpAny_pure q))
    · cases hcD
  ne := fun h tp dd its n sl X htp => by
    obtain ⟨cdD, hcD, _⟩ := any_some hdct
    refine Bool.eq_false_iff.mpr fun q => ?_
    have e : D = tp := Value.ref.inj (beq_iff_eq.mp q)
    subst e
    unfold clsIn at hcD
    split at hcD
    · rename_i c' d' cd' sl' ho
      have z := (X _ _ ho).symm.trans htp
      cases z
    · cases hcD
  ca := fun X I k => ph_kin_class hga hgt hsub hdct ha hn htk hm X I k
end
end PySem.W
namespace Ph
open PySem PySem.Spec PyProof.Rows L2
/-- an own error's object at a, of the class at D: made by its own __init__, or plain -/
def ErrAt (H : Hp) (a D : Addr) : Prop := (∃ dx fs, H a = some (exo a D (some dx)) ∧ H dx = some (exd dx fs)) ∨ H a = some (ExO (.ref D) a)
theorem ErrAt.mono {H H' : Hp} {a D : Addr} (h : ErrAt H a D) (e : Ex H H') : ErrAt H' a D := by
  rcases h with ⟨dx, fs, h1, h2⟩ | h
  · exact .inl ⟨dx, fs, e _ _ h1, e _ _ h2⟩
  · exact .inr (e _ _ h)
/-- isinstance(x, c), x such an error -/
def rIsO (K : PySem.W.Frag) : List V → Hp → VK → Prop := fun xs H Q => ∃ (a D : Addr) (c : V) (u : Value) (b : Bool), xs = [.ref a, c] ∧ ClsV c u ∧ ErrAt H a D ∧ ExcC K D ∧ PySem.W.kitOne K (.ref D) u = some b ∧ Q (.bl b) H
theorem call_isO {X : Cx} : CallR X (.builtin "isinstance") (rIsO X.K) := by
  intro pins s σ H xs us Q I r h
  obtain ⟨a, D, c, u, b, rfl, k, at_, C, e, q⟩ := h
  obtain ⟨u1, u2, rfl, r1, r2⟩ := vals2 r
  have e2 := k.eq r2
  subst e2
  cases (show u1 = Value.ref a from r1)
  obtain ⟨ox, od, J⟩ : ∃ ox od, PySem.W.InstAt s.heap a ox D od := by
    rcases at_ with ⟨dx, fs, h1, h2⟩ | h1
    · obtain ⟨t1, e1⟩ := exo_at I.hok h1
      obtain ⟨mA, ⟨o, es, ep, e2, _⟩, _⟩ := exd_at I.hok h2
      exact ⟨_, some o, e1, rfl, rfl, e2⟩
    · obtain ⟨⟨oe, vs, ho, hz, hd, _⟩, _, _⟩ := I.hok a _ h1
      obtain ⟨oc, odx, oda, osl⟩ := oe
      obtain ⟨h3, h4⟩ := hz
      dsimp only at h3 h4 hd
      subst h3 h4 hd
      exact ⟨_, none, ho, rfl, rfl, trivial⟩
  exact PySem.W.kia_one (PySem.W.ph_kitx_exc C.hg C.hk C.hs C.hd C.ha C.hn C.ht C.hm) I.kIn J e (fun z => nomatch z) fun tk => ⟨.bl b, H, I.tok tk, rfl, q⟩
end Ph

namespace Ph
open PySem PySem.Spec PyProof.Rows L2
/-! ### own errors of either base, made with values by place or by name -/
/-- what the written part says of an error's class at C, over the base B -/
structure ErC (K : PySem.W.Frag) (C : Addr) (bmB : List Value) (newId : String) : Prop where
  obj : ∃ nm q N bs bm sn sub ab col dd k0 k1 k2 k3 k5, K.lookup C = some (excClassObj nm q C N bs bm true sn sub ab col dd k0 k1 k2 k3 k5 newId) ∧ ∀ Y : String, bm.contains (.type Y) = bmB.contains (.type Y)
  isE : PySem.W.subIn K (.ref C) (.type "BaseException") = some true
  ty : PySem.W.typeIn K (.ref C) = some (.type "type")
  keep : PySem.W.keepIn K (.ref C) = true
/-- C(e, ..) as a value -/
def tErrV (C : Addr) (sp : Sp) (ta : TA) : TE := fun σ H Q => ta σ H fun vs H1 => vs.length ≤ 1000 ∧ ∀ a, H1 a = none → sp (.ref a :: vs) (upd H1 a (exo a C none)) (fun v H2 => v = .non ∧ Q (.ref a) H2) (fun _ _ _ => False)
section
variable {X : Cx} {CX : CXT} {bmB : List Value} {B newId initId : String} {x : Str} {C fI : Addr} {k : Nat} {fd : FuncData} {ps ks : List Str} {sp : Sp} {p pos : Pos} {e : Expr} {es : List Expr} {ta : TA} {kws : List Keyword}
theorem pe_errV (F : ExcBaseFacts B newId initId bmB) (T : ErC X.K C bmB newId) (iC : PySem.W.findIn X.K (.ref C) "__init__" = some (some (.ref fI))) (tI : PySem.W.typeIn X.K (.ref fI) = some (.type "function"))
    (F1 : FnOk X.prog X.w X.K X.mg X.base CX k fI fd ps sp) (hr : Room (k + 1) X.A) (hb : L2.Binds X.K fd ps []) (hx : Passes CX X (fun _ _ _ => False)) (hg : Gl X x) (hm : X.mg x = some (.ref C)) (ha : PA X (e :: es) ta)
    (hdb : (x == ("__debug__" : Str)) = false := by decide) (he : starEach (e :: es) X.env = (false, eval e X.env) :: starEach es X.env := by rfl) (hpl : (backTo pos (starEach es X.env)).any (·.1) = false := by rfl) :
    PE X (.Call (.Name x p) (e :: es) [] pos) (tErrV C sp ta) := by
  refine ⟨fun pins s σ H Q I h => ?_⟩
  obtain ⟨nm, q, N, bs, bm, sn, sub, ab, col, dd, k0, k1, k2, k3, k5, hC, hT⟩ := T.obj
  refine wpAny_Call_Name_kw (ld_glob I hg hm ?_ hdb)
  refine PySem.W.callWith_K (h₀ := X.base) I.ok.mod.kin T.keep (thn (ha.run pos pins s σ H _ I h) fun us s1 ⟨vs, H1, I1, r1, hz, q1⟩ => ⟨I1.kIn, ?_⟩) he hpl
  show wpAny _ _ (call (.ref C) us) _ _ _
  obtain ⟨hp, g, dr, tk, os⟩ := s1
  have hsz : hp.objs.size ≤ hp.objs.size + 1 := Nat.le_succ _
  have hq := q1 (hp.objs.size + 1) (I1.hok.fresh hsz)
  have kk : ∀ b o, hp.get? b = some o → ((hp.push (PySem.W.kdv_tup us)).push (PySem.HandSPX.excO C hp.objs.size)).get? b = some o := fun b o e => Heap.get?_push_of_some _ (Heap.get?_push_of_some _ e)
  have hget : ((hp.push (PySem.W.kdv_tup us)).push (PySem.HandSPX.excO C hp.objs.size)).get? (hp.objs.size + 1) = some (PySem.HandSPX.excO C hp.objs.size) := by heap_get
  have I2 : Inv X pins σ (upd H1 (hp.objs.size + 1) (exo (hp.objs.size + 1) C none)) ⟨(hp.push (PySem.W.kdv_tup us)).push (PySem.HandSPX.excO C hp.objs.size), g, dr, tk, os⟩ :=
    I1.laid (t' := tk) (a := hp.objs.size + 1) (o := exo (hp.objs.size + 1) C none) (h' := (hp.push (PySem.W.kdv_tup us)).push (PySem.HandSPX.excO C hp.objs.size)) kk hsz (exo_ok hget)
  have r2 : Vals (V.ref (hp.objs.size + 1) :: vs) (Value.ref (hp.objs.size + 1) :: us) := .cons rfl r1
  have hl : (Value.ref (hp.objs.size + 1) :: us ++ []).length = ps.length := by
    have e := r2.length
    rw [F1.len _ _ _ _ hq] at e
    rw [List.append_nil]
    exact e.symm
  have hus : us.length ≤ sizeLine := by
    rw [← Paired.length r1, sizeLine_eq]
    omega
  have bb := hb _ (Value.ref (hp.objs.size + 1) :: us) I2.kIn hl
  rw [List.append_nil] at bb
  refine wpAny_call (PySem.HandSPX.call_own F hT (I1.kIn _ _ hC) (PySem.W.looks_findIn I1.kIn iC) (fun self => PySem.W.bind_fn I1.kIn self tI) hus
    (codeAny_mono (F1.run _ X.stack _ _ ⟨Value.ref (hp.objs.size + 1) :: us, []⟩ (Value.ref (hp.objs.size + 1) :: us) _ _ (fun _ _ _ => False) (hr.make C us []) (I2.env0.make C us []) bb r2 hq) fun r s' hq' => ?_))
  cases r with
  | error er => exact hx pins σ _ _ er s' I2 hq'
  | ok fl =>
    cases fl with
    | ret u =>
      obtain ⟨v, H', I3, rv, ev, q3⟩ := I2.after hq'
      subst ev
      exact ⟨rv, ⟨V.ref (hp.objs.size + 1), H', I3, rfl, q3⟩⟩
    | next => exact False.elim hq'
    | brk => exact False.elim hq'
    | cont => exact False.elim hq'
/-- C(), no __init__ of its own: a plain error -/
theorem pe_err0 (F : ExcBaseFacts B newId initId bmB) (q : PySem.W.excIn X.K C bmB newId = true) (gC : X.mg x = some (.ref C)) (kC : PySem.W.keepIn X.K (.ref C) = true) (hg : Gl X x) (hdb : (x == ("__debug__" : Str)) = false := by decide) :
    PE X (.Call (.Name x p) [] [] pos) (fun σ H Q => ∀ a, H a = none → Q (.ref a) (upd H a (ExO (.ref C) a))) := by
  refine ⟨fun pins s σ H Q I h => ?_⟩
  refine wpAny_Call_Name_kw (ld_glob I hg gC ?_ hdb)
  refine PySem.W.callWith_K0 I.kIn kC ?_
  show wpAny _ _ (call (.ref C) []) _ _ _
  obtain ⟨bm, N, nm, qn, bs, hdct, sn, sub, ab, col, dd, k0, k1, k2, k3, k5, mN, hC, hN, hni, T⟩ := exc_obj I.kIn q
  refine wpAny_call_exc_subT F T hC hN hni (fun h' a hm => ?_) (by show 0 ≤ sizeLine; rw [sizeLine_eq]; omega)
  have hn : H a = none := I.hok.gone hm.new
  obtain ⟨t, ht, _, _⟩ := hm.there
  exact ⟨.ref a, upd H a (ExO (.ref C) a), I.laidN hm.keeps hm.new hn (exO_ok ht ⟨rfl, rfl⟩ rfl rfl rfl (show 4 < 6 by decide)), rfl, h a hn⟩
/-- raise C(e, ..) -/
theorem pmk_errP (F : ExcBaseFacts B newId initId bmB) (T : ErC X.K C bmB newId) (iC : PySem.W.findIn X.K (.ref C) "__init__" = some (some (.ref fI))) (tI : PySem.W.typeIn X.K (.ref fI) = some (.type "function"))
    (F1 : FnOk X.prog X.w X.K X.mg X.base CX k fI fd ps sp) (hr : Room (k + 1) X.A) (hb : L2.Binds X.K fd ps []) (hx : Passes CX X (fun _ _ _ => False)) (hg : Gl X x) (hm : X.mg x = some (.ref C)) (ha : PA X (e :: es) ta)
    (hdb : (x == ("__debug__" : Str)) = false := by decide) (he : starEach (e :: es) X.env = (false, eval e X.env) :: starEach es X.env := by rfl) (hpl : (backTo pos (starEach es X.env)).any (·.1) = false := by rfl) :
    PMk X (.Call (.Name x p) (e :: es) [] pos) (tMkO C sp [] ta) := by
  intro pins s σ H Q I h
  obtain ⟨nm, q, N, bs, bm, sn, sub, ab, col, dd, k0, k1, k2, k3, k5, hC, hT⟩ := T.obj
  refine wpAny_Call_Name_kw (ld_glob I hg hm ?_ hdb)
  refine PySem.W.callWith_K (h₀ := X.base) I.ok.mod.kin T.keep (thn (ha.run pos pins s σ H _ I h) fun us s1 ⟨vs, H1, I1, r1, hz, q1⟩ => ⟨I1.kIn, ?_⟩) he hpl
  show wpAny _ _ (call (.ref C) us) _ _ _
  obtain ⟨hp, g, dr, tk, os⟩ := s1
  have hsz : hp.objs.size ≤ hp.objs.size + 1 := Nat.le_succ _
  have hq := q1 (hp.objs.size + 1) (I1.hok.fresh hsz)
  rw [List.append_nil] at hq
  have kk : ∀ b o, hp.get? b = some o → ((hp.push (PySem.W.kdv_tup us)).push (PySem.HandSPX.excO C hp.objs.size)).get? b = some o := fun b o e => Heap.get?_push_of_some _ (Heap.get?_push_of_some _ e)
  have hget : ((hp.push (PySem.W.kdv_tup us)).push (PySem.HandSPX.excO C hp.objs.size)).get? (hp.objs.size + 1) = some (PySem.HandSPX.excO C hp.objs.size) := by heap_get
  have I2 : Inv X pins σ (upd H1 (hp.objs.size + 1) (exo (hp.objs.size + 1) C none)) ⟨(hp.push (PySem.W.kdv_tup us)).push (PySem.HandSPX.excO C hp.objs.size), g, dr, tk, os⟩ :=
    I1.laid (t' := tk) (a := hp.objs.size + 1) (o := exo (hp.objs.size + 1) C none) (h' := (hp.push (PySem.W.kdv_tup us)).push (PySem.HandSPX.excO C hp.objs.size)) kk hsz (exo_ok hget)
  have r2 : Vals (V.ref (hp.objs.size + 1) :: vs) (Value.ref (hp.objs.size + 1) :: us) := .cons rfl r1
  have hl : (Value.ref (hp.objs.size + 1) :: us ++ []).length = ps.length := by
    have e := r2.length
    rw [F1.len _ _ _ _ hq] at e
    rw [List.append_nil]
    exact e.symm
  have hus : us.length ≤ sizeLine := by
    rw [← Paired.length r1, sizeLine_eq]
    omega
  have bb := hb _ (Value.ref (hp.objs.size + 1) :: us) I2.kIn hl
  rw [List.append_nil] at bb
  refine wpAny_call (PySem.HandSPX.call_own F hT (I1.kIn _ _ hC) (PySem.W.looks_findIn I1.kIn iC) (fun self => PySem.W.bind_fn I1.kIn self tI) hus
    (codeAny_mono (F1.run _ X.stack _ _ ⟨Value.ref (hp.objs.size + 1) :: us, []⟩ (Value.ref (hp.objs.size + 1) :: us) _ _ (fun _ _ _ => False) (hr.make C us []) (I2.env0.make C us []) bb r2 hq) fun r s' hq' => ?_))
  cases r with
  | error er => exact hx pins σ _ _ er s' I2 hq'
  | ok fl =>
    cases fl with
    | ret u =>
      obtain ⟨v, H2, os2, bare2, un2, hok2, rv, ev, d, fs, ea, ed, hd1, q2⟩ := hq'
      subst ev
      obtain ⟨h2, g2, d2, t2, os'⟩ := s'
      exact ⟨rv, mk_end (raises_own T.isE T.ty) I1 hsz kk un2 hok2 os2 bare2 ea ed hd1 q2⟩
    | next => exact False.elim hq'
    | brk => exact False.elim hq'
    | cont => exact False.elim hq'
/-- raise C(k = e): the value by its name -/
theorem pmk_errK (F : ExcBaseFacts B newId initId bmB) (T : ErC X.K C bmB newId) (iC : PySem.W.findIn X.K (.ref C) "__init__" = some (some (.ref fI))) (tI : PySem.W.typeIn X.K (.ref fI) = some (.type "function"))
    (F1 : FnOk X.prog X.w X.K X.mg X.base CX k fI fd ps sp) (hr : Room (k + 1) X.A) (hb : KBn X.K fd ps 1 ks (fun us ws => us ++ ws) (fun vs zs => vs ++ zs)) (hx : Passes CX X (fun _ _ _ => False)) (hg : Gl X x) (hm : X.mg x = some (.ref C)) (ha : PK X kws ta)
    (hkl : ∀ σ H Q, ta σ H Q → ta σ H fun vs H' => vs.length = ks.length ∧ Q vs H')
    (hall : (backToKw pos (keywordEach kws X.env)).all (·.1.isSome) = true := by rfl) (hks : (backToKw pos (keywordEach kws X.env)).filterMap (·.1) = ks := by rfl)
    (hpl : ((backTo pos (starEach [] X.env)).any (·.1) || (backToKw pos (keywordEach kws X.env)).any (·.1.isNone)) = false := by rfl)
    (hdb : (x == ("__debug__" : Str)) = false := by decide) : PMk X (.Call (.Name x p) [] kws pos) (tMkO C sp [] ta) := by
  intro pins s σ H Q I h
  obtain ⟨nm, q, N, bs, bm, sn, sub, ab, col, dd, k0, k1, k2, k3, k5, hC, hT⟩ := T.obj
  refine wpAny_Call_Name_kw (ld_glob I hg hm ?_ hdb)
  refine PySem.W.callWith_KW0 (h₀ := X.base) I.ok.mod.kin T.keep hall (thn (ha.run pos pins s σ H _ I (hkl _ _ _ h)) fun us s1 ⟨vs, H1, I1, r1, lk, hz, q1⟩ => ⟨I1.kIn, ?_⟩) hpl
  rw [hks]
  show wpAny _ _ (call (.ref C) [] (ks.zip us)) _ _ _
  obtain ⟨hp, g, dr, tk, os⟩ := s1
  have hsz : hp.objs.size ≤ hp.objs.size + 1 := Nat.le_succ _
  have hq := q1 (hp.objs.size + 1) (I1.hok.fresh hsz)
  rw [List.append_nil] at hq
  have kk : ∀ b o, hp.get? b = some o → ((hp.push (PySem.W.kdv_tup [])).push (PySem.HandSPX.excO C hp.objs.size)).get? b = some o := fun b o e => Heap.get?_push_of_some _ (Heap.get?_push_of_some _ e)
  have hget : ((hp.push (PySem.W.kdv_tup [])).push (PySem.HandSPX.excO C hp.objs.size)).get? (hp.objs.size + 1) = some (PySem.HandSPX.excO C hp.objs.size) := by heap_get
  have I2 : Inv X pins σ (upd H1 (hp.objs.size + 1) (exo (hp.objs.size + 1) C none)) ⟨(hp.push (PySem.W.kdv_tup [])).push (PySem.HandSPX.excO C hp.objs.size), g, dr, tk, os⟩ :=
    I1.laid (t' := tk) (a := hp.objs.size + 1) (o := exo (hp.objs.size + 1) C none) (h' := (hp.push (PySem.W.kdv_tup [])).push (PySem.HandSPX.excO C hp.objs.size)) kk hsz (exo_ok hget)
  have r0 : Vals [V.ref (hp.objs.size + 1)] [Value.ref (hp.objs.size + 1)] := .cons rfl .nil
  have r2 := hb.rel r0 r1
  have bb := hb.to _ [Value.ref (hp.objs.size + 1)] us I2.kIn rfl (r1.length.symm.trans lk)
  refine wpAny_call (PySem.HandSPX.call_ownK F hT (I1.kIn _ _ hC) (PySem.W.looks_findIn I1.kIn iC) (fun self => PySem.W.bind_fn I1.kIn self tI) (by show 0 ≤ sizeLine; rw [sizeLine_eq]; omega)
    (codeAny_mono (F1.run _ X.stack _ _ ⟨[Value.ref (hp.objs.size + 1)], ks.zip us⟩ ([Value.ref (hp.objs.size + 1)] ++ us) _ _ (fun _ _ _ => False) (hr.make C [] (ks.zip us)) (I2.env0.make C [] (ks.zip us)) bb r2 hq) fun r s' hq' => ?_))
  cases r with
  | error er => exact hx pins σ _ _ er s' I2 hq'
  | ok fl =>
    cases fl with
    | ret u =>
      obtain ⟨v, H2, os2, bare2, un2, hok2, rv, ev, d, fs, ea, ed, hd1, q2⟩ := hq'
      subst ev
      obtain ⟨h2, g2, d2, t2, os'⟩ := s'
      exact ⟨rv, mk_end (raises_own T.isE T.ty) I1 hsz kk un2 hok2 os2 bare2 ea ed hd1 q2⟩
    | next => exact False.elim hq'
    | brk => exact False.elim hq'
    | cont => exact False.elim hq'
end
section
variable {K : PySem.W.Frag}
/-- how one value binds by its name behind self -/
theorem Fun.kb1 {x qual : Str} {st : Stmt} {f : Addr} {fd : FuncData} {ps ks : List Str} (F : Fun K x qual st f fd)
    (h : ∀ (kV doc pm : Value) (an : Option Addr) (cdv ct : Value) (us ws : List Value), us.length = 1 → ws.length = ks.length → bindArgs (PySem.W.fnOf x qual (defArgs st) (defBody st) (defScope st) .none kV doc pm an cdv ct) ⟨us, ks.zip ws⟩ = pure (ps.zip (us ++ ws))) :
    KBn K fd ps 1 ks (fun us ws => us ++ ws) (fun vs zs => vs ++ zs) := by
  obtain ⟨oc, od, kV, doc, pm, an, cdv, ct, osl, rfl, lk, hcd⟩ := F.ex
  refine ⟨fun s us ws X l1 l2 => BindsTo.of_eq (h kV doc pm an cdv ct us ws l1 l2), fun r1 r2 => r1.append r2⟩
end
end Ph

namespace Ph
open PySem PySem.Spec PyProof.Rows L2
/-! ### several clauses, each with a name: slot i is its name's -/
def clauseEnds (D : Ends) (i : Nat) : Ends := { nx := fun σ' H' => D.nx (σ'.set i none) H', rt := D.rt, bk := fun σ' H' => D.bk (σ'.set i none) H', ct := fun σ' H' => D.ct (σ'.set i none) H' }
def wNamed (K : PySem.W.Frag) (Wout : WX) (D : Ends) : List (Value × Nat × (Addr → Value → Option Addr → TS)) → WX
  | [] => Wout
  | (c, i, ts) :: r => fun cls d σ H => ∃ b, PySem.W.exmOne K cls c = some b ∧ (b = true → ∀ a, H a = none → ts a cls d (clauseEnds D i) (σ.set i (some (.ref a))) H) ∧ (b = false → wNamed K Wout D r cls d σ H)
inductive HdN (X : Cx) : List ExceptHandler → List (Value × Nat × (Addr → Value → Option Addr → TS)) → Prop
  | nil : HdN X [] []
  | cons {x n : Str} {c : Value} {i : Nat} {ts : Addr → Value → Option Addr → TS} {b₀ : Stmt} {suite : List Stmt} {np pos' : Pos} {hds : List ExceptHandler} {l : List (Value × Nat × (Addr → Value → Option Addr → TS))} (hc : Names X x c)
      (hi : X.N[i]? = some n) (hln : X.env.kindOf n = some .local)
      (hsu : ∀ (a : Addr) (oe : Obj) (cls : Value) (d : Option Addr) (pn : List (Addr × Obj)), Zc cls d oe → (∃ vs, oe.data = .fields vs) → PSs (X.suite a ((a, oe) :: pn)) (b₀ :: suite) (ts a cls d)) (r : HdN X hds l) :
      HdN X (.ExceptHandler (some (.Name x np)) (some n) (b₀ :: suite) pos' :: hds) ((c, i, ts) :: l)
section
variable {X : Cx} {body : List Stmt} {h₀ : ExceptHandler} {hds : List ExceptHandler} {l : List (Value × Nat × (Addr → Value → Option Addr → TS))} {pos : Pos} {tb : WX → TS} {Wout : WX}
theorem ps_try_named (hs : X.stack = X.env :: X.outer) (hf : X.env.frame = some X.env.locals) (hN : X.N.Nodup) (tk : Takes X Wout)
    (hb : ∀ (W : WX) (pn : List (Addr × Obj)) (xe : Value → Shared → Prop), Takes (X.tr pn xe) W → PassesOwn (model X.prog X.w) X.A X.env xe → PSs (X.tr pn xe) body (tb W))
    (hh : HdN X (h₀ :: hds) l) : PS X (.Try body (h₀ :: hds) [] [] pos) (fun D σ H => tb (wNamed X.K Wout D l) D σ H) := by
  refine ⟨fun pins s σ H D I h => ?_⟩
  have ok := I.ok
  have hfr : X.A.frames = some (X.env :: X.outer) := by rw [ok.frames, hs]
  refine wpAny_Try_except ?_
  refine wpAny_mono ((hb (wNamed X.K Wout D l) (X.pn ++ pins) (fun e s₁ => wpAny (model X.prog X.w) X.A (noteFrame e X.env) (fun _ s₂ => wpAny (model X.prog X.w) X.A (setFlight e none) (fun _ s₃ =>
    wpAny (model X.prog X.w) X.A (handleBy e X.env (h₀ :: hds)) (SP X pins D) X.xe s₃) X.xe s₂) X.xe s₁) (fun u s' xx => ?_) PassesOwn.looking).run [] s σ H D (I.toTry _) h) (fun f s1 hsp => ?_) (fun e s1 he => he)
  · obtain ⟨a, B, sI, pins', σ', H', cls, d, rfl, J', nb, up, sky, na, os, ag, w⟩ := xx
    have J : Inv X pins σ' H' sI := J'.ofTry ok
    have sky' : Sky B (X.env :: X.outer) a (Zc cls d) X.env.locals s'.heap := by rw [← hs]; exact sky
    show wpAny (model X.prog X.w) X.A (noteFrame (.ref a) X.env) _ _ _
    refine Sky.land Zc.steady hfr hf sky' fun h3 fl3 up3 => ?_
    have J3 : Inv X pins σ' H' { s' with heap := h3 } := J.landed nb fl3.1 (up.trans up3) os ag
    obtain ⟨oe3, vs3, he3, hz3, hd3⟩ := fl3.there
    have notFr : ∀ {h : Heap} {o : Obj} {vs : Array Value}, h.FunFrames B (X.env :: X.outer) → h.get? a = some o → o.data = .fields vs → a ∉ frs (X.env :: X.outer) := fun {h o vs} ff e dd hm => by
      obtain ⟨_, o', e', hnf⟩ := ff.mem hm
      rw [e] at e'; cases e'
      exact hnf _ dd
    have nfr := notFr fl3.2.2.1 he3 hd3
    have nL : a ≠ X.env.locals := fun z => nfr (List.mem_filterMap.mpr ⟨X.env, List.mem_cons_self, by rw [hf, z]⟩)
    have nF : a ∉ X.fs := fun hm => by
      obtain ⟨e, he, q⟩ := List.mem_filterMap.mp hm
      exact nfr (List.mem_filterMap.mpr ⟨e, List.mem_cons_of_mem _ he, q⟩)
    have S3 := J3.suite he3 hd3 na nL nF
    have go : ∀ {hds' : List ExceptHandler} {l' : List (Value × Nat × (Addr → Value → Option Addr → TS))}, HdN X hds' l' → wNamed X.K Wout D l' cls d σ' H' →
        wpAny (model X.prog X.w) X.A (handleBy (.ref a) X.env hds') (SP X pins D) X.xe { s' with heap := h3 } := by
      intro hds' l' hk
      induction hk with
      | nil =>
        intro w
        refine wpAny_handleBy_nil ?_
        obtain ⟨k1, k2, k3, oe, vs, T, oT, ts', he, hz, hd, h1, hr⟩ := id fl3
        unfold PySem.passOn
        refine wpAny_bind (wpAny_field he hd h1 ?_)
        rw [if_neg (show ¬ ((Value.ref T == Value.none) = true) from by simp)]
        have fin : wpAny (model X.prog X.w) X.A (setFlight (.ref a) X.env.frame) (fun _ s4 => wpAny (model X.prog X.w) X.A (throw (.ref a) : Sem Flow) (SP X pins D) X.xe s4) X.xe { s' with heap := h3 } := by
          rw [hf]
          refine HandSPX.setFlight_upZ fl3 fun h4 hh4 up4 => wpAny_throw (tk _ _ ?_)
          exact ⟨a, B, sI, pins, σ', H', cls, d, rfl, J, nb, (up.trans up3).trans up4, .inr (.inr (by rw [hs]; exact hh4)), na, os, ag, w⟩
        first
          | exact wpAny_bind (wpAny_pure (wpAny_bind fin))
          | exact wpAny_bind fin
      | @cons x n c i ts b₀ suite np pos' hds2 l2 hc hi hln hsu r ih =>
        intro w
        obtain ⟨b, hb1, hyes, hno⟩ := w
        have hloc : Loc X.env.scope n := .inl hln
        refine wpAny_handleBy_cons (codeAny_handlers_test ?_) (by intro q; cases q)
        have LT : PySem.W.Looks (model X.prog X.w) h3 (typeOf (.ref a)) cls := fun A Q E s k q => wpAny_typeOf_ref (k _ _ he3) (by rw [hz3.1]; exact q)
        have LM := PySem.W.exm_one (M := model X.prog X.w) (J3.kIn) LT hb1
        have test : ∀ {Q : Value → Shared → Prop} {E : Value → Shared → Prop}, Q c { s' with heap := h3 } → wpAny (model X.prog X.w) (X.A.mark (some (.ref a))) (eval (.Name x np) X.env) Q E { s' with heap := h3 } := fun {Q E} q => by
          obtain ⟨hg, hdbg, hm | ⟨hm, hv, hnn⟩⟩ := hc
          · exact ld_glob (X := X.suite a ((a, oe3) :: (X.pn ++ pins))) S3 hg hm q hdbg
          · exact ld_blt (X := X.suite a ((a, oe3) :: (X.pn ++ pins))) S3 hg hm hv q hnn hdbg
        refine test (LM.here ?_)
        cases b with
        | true =>
          refine codeAny_handlers_suite_as ?_
          refine HandSPX.lands_againZ fl3 fun h4 fl4 up4 => ?_
          have J4 : Inv X pins σ' H' { s' with heap := h4 } := J.landed nb fl4.1 ((up.trans up3).trans up4) os ag
          obtain ⟨oe4, vs4, he4, hz4, hd4⟩ := fl4.there
          have S4 := J4.suite he4 hd4 na nL nF
          refine store_ok (X := X.suite a ((a, oe4) :: (X.pn ++ pins))) (v := .ref a) S4 hN hi hloc rfl (fun s5 S5 => ?_) (.inr hln)
          refine wpAny_mono ((hsu a oe4 cls d (X.pn ++ pins) hz4 ⟨_, hd4⟩).run [] s5 _ H' _ S5 (hyes rfl a na)) (fun f s6 hsp => ?_) (fun _ _ z => False.elim z)
          have end_ : ∀ {σ6 : L2.St} {H6 : Hp} {Q : Shared → Prop}, Inv (X.suite a ((a, oe4) :: (X.pn ++ pins))) [] σ6 H6 s6 → (∀ s7, Inv X pins (σ6.set i none) H6 s7 → Q s7) →
              wpAny (model X.prog X.w) X.A (do bindName X.env n .none; unbindBehindTheSuite X.env n pos') (fun _ s7 => Q s7) X.xe s6 := fun {σ6 H6 Q} S6 hq => gone_ok (S6.unsuite ok) hN hi hln hq
          cases f with
          | next =>
            obtain ⟨σ6, H6, S6, q6⟩ := hsp
            exact end_ S6 fun s7 J7 => ⟨_, _, J7, q6⟩
          | brk =>
            obtain ⟨σ6, H6, S6, q6⟩ := hsp
            exact end_ S6 fun s7 J7 => ⟨_, _, J7, q6⟩
          | cont =>
            obtain ⟨σ6, H6, S6, q6⟩ := hsp
            exact end_ S6 fun s7 J7 => ⟨_, _, J7, q6⟩
          | ret u =>
            obtain ⟨v6, σ6, H6, S6, r6, q6⟩ := hsp
            exact end_ S6 fun s7 J7 => ⟨_, _, _, J7, r6, q6⟩
        | false =>
          show wpAny _ X.A (handleBy (.ref a) X.env hds2) _ _ _
          exact ih (hno rfl)
    exact go hh w
  · cases f with
    | next =>
      obtain ⟨σ', H', J', q⟩ := hsp
      exact wpAny_execs_nil ⟨σ', H', J'.ofTry ok, q⟩
    | brk =>
      obtain ⟨σ', H', J', q⟩ := hsp
      exact ⟨σ', H', J'.ofTry ok, q⟩
    | cont =>
      obtain ⟨σ', H', J', q⟩ := hsp
      exact ⟨σ', H', J'.ofTry ok, q⟩
    | ret u =>
      obtain ⟨v, σ', H', J', r, q⟩ := hsp
      exact ⟨v, σ', H', J'.ofTry ok, r, q⟩
end
end Ph

namespace K0
open PySem PySem.Spec PyProof.Rows L2 Ph
def top (i : Nat) : Stmt := PySem.Challenge.pw_placehues_k00_errors.main.body.getD i (.Pass ⟨0, 0, 0, 0⟩)
def initOf : Stmt → Stmt
  | .ClassDef _ _ _ b _ _ _ _ _ _ _ => b.getD 0 (.Pass ⟨0, 0, 0, 0⟩)
  | s => s
abbrev s_initP : Stmt := initOf (top 1)
abbrev s_initL : Stmt := initOf (top 2)
theorem sc_initP : FnScope ["self", "place"] ["self", "place"] (defScope s_initP) := ⟨rfl, rfl, rfl, by decide +kernel, rfl, by decide +kernel, by decide +kernel⟩
theorem sc_initL : FnScope ["self", "line"] ["self", "line"] (defScope s_initL) := ⟨rfl, rfl, rfl, by decide +kernel, rfl, by decide +kernel, by decide +kernel⟩
/-- what an __init__ keeps, f the field's name -/
def spKeep (f : Str) (C : Addr) : Sp := fun vs H Q _ => ∃ (a : Addr) (y : V), vs = [.ref a, y] ∧ H a = some (exo a C none) ∧
  ∀ dx, H dx = none → dx ≠ a → Q .non (upd (upd H dx (exd dx [(f, y)])) a (exo a C (some dx)))
section
variable {P : Program} {w : World} {K : PySem.W.Frag} {mg : Str → Option Value} {base : Heap}
theorem ok_initP {f C : Addr} {fd : FuncData} (F : Fun K "__init__" "NoPlace.__init__" s_initP f fd) (hm : mg "LookupError" = none) (T : LxC K C) (no : PySem.W.findIn K (.ref C) "place" = some none)
    (vV : PySem.W.findCls K (.type "LookupError") (.type "type") "__init__" = some (.val (.builtin "LookupError.__init__"))) : FnOk P w K mg base CX0 1 f fd ["self", "place"] (spKeep "place" C) := by
  refine F.ok sc_initP (fun vs H Q E h => ?_) (fun cdv A outer s H vs Q E hr h => ?_)
  · obtain ⟨a, y, rfl, _⟩ := h
    rfl
  · obtain ⟨a, y, rfl, ha, q⟩ := h
    refine ⟨_, pss_cons (ps_expr (pe_lxInit (by rfl) hm vV (by decide +kernel) (pa_cons (pv 0) (pa_cons pe_str pa_nil)))) (pss_one (ps_lxF (pv 0) (pv 1))), ?_⟩
    refine ⟨.ref a, rfl, a, C, _, rfl, by decide, T, ha, ?_⟩
    exact ⟨y, rfl, .ref a, rfl, a, C, rfl, T, no, ha, q⟩
theorem ok_initL {f C : Addr} {fd : FuncData} (F : Fun K "__init__" "BadLine.__init__" s_initL f fd) (hm : mg "ValueError" = none) (T : OexC K C) (no : PySem.W.findIn K (.ref C) "line" = some none)
    (vV : PySem.W.findCls K (.type "ValueError") (.type "type") "__init__" = some (.val (.builtin "ValueError.__init__"))) : FnOk P w K mg base CX0 1 f fd ["self", "line"] (spKeep "line" C) := by
  refine F.ok sc_initL (fun vs H Q E h => ?_) (fun cdv A outer s H vs Q E hr h => ?_)
  · obtain ⟨a, y, rfl, _⟩ := h
    rfl
  · obtain ⟨a, y, rfl, ha, q⟩ := h
    refine ⟨_, pss_cons (ps_expr (pe_veinit (by rfl) hm vV (pa_cons (pv 0) (pa_cons pe_str pa_nil)))) (pss_one (ps_ost (pv 0) (pv 1))), ?_⟩
    refine ⟨.ref a, rfl, a, C, _, rfl, by decide, T, ha, ?_⟩
    exact ⟨y, rfl, .ref a, rfl, a, C, rfl, T, no, .inl ⟨ha, q⟩⟩
end
/-- an error's class by its name, its __init__ with one field -/
structure EC (P : Program) (w : World) (K : PySem.W.Frag) (mg : Str → Option Value) (base : Heap) (x f : Str) (C fI : Addr) (fd : FuncData) (bmB : List Value) (newId : String) : Prop where
  er : ErC K C bmB newId
  ini : PySem.W.findIn K (.ref C) "__init__" = some (some (.ref fI))
  ty : PySem.W.typeIn K (.ref fI) = some (.type "function")
  fn : FnOk P w K mg base CX0 1 fI fd ["self", f] (spKeep f C)
  bi : Binds K fd ["self", f] []
  kb : KBn K fd ["self", f] 1 [f] (fun us ws => us ++ ws) (fun vs zs => vs ++ zs)
  gl : mg x = some (.ref C)
  no : PySem.W.findIn K (.ref C) f = some none
  xf : XfC K C
  xc : ExcC K C
end K0

namespace K0
open PySem PySem.Spec PyProof.Rows L2 Ph
section
variable {P : Program} {w : World} {K : PySem.W.Frag} {mg : Str → Option Value} {base : Heap}
abbrev s__law_caught : Stmt := top 8
abbrev N__law_caught : List Str := ["way_so", "worth", "error"]
theorem sc__law_caught : FnScope N__law_caught ["way_so", "worth"] (defScope s__law_caught) := ⟨rfl, rfl, rfl, by decide +kernel, rfl, by decide +kernel, by decide +kernel⟩
abbrev tell (way : Nat) : Str := if way = 0 ∨ way = 2 then "place" else "line"
abbrev R__law_caught : List PyData → PyData → Prop := fun as d => ∃ (way : Nat) (y : Int), as = [.int way, .int y] ∧ way ≤ 3 ∧ d = .list [.str (tell way), .int y]
theorem pk_len1 {i : Nat} : ∀ σ H Q, tCons (tVar i) tNil σ H Q → tCons (tVar i) tNil σ H fun vs H' => vs.length = 1 ∧ Q vs H' := fun σ H Q h => by
  obtain ⟨v, e, q⟩ := h
  exact ⟨v, e, rfl, q⟩
theorem tnext_of {D : Ends} {σ : L2.St} {H : Hp} (h : D.nx σ H) : tNext D σ H := h
theorem raise1 {C : Addr} {f : Str} {σ : L2.St} {H : Hp} {v : V} {W : WX} (hv : σ[1]? = some (some v)) (k : ∀ dd H', Ex H H' → H' dd = some (.xd [(f, v)]) → W (.ref C) (some dd) σ H') :
    tMkO C (spKeep f C) [] (tCons (tVar 1) tNil) σ H fun cls d H' => W cls d σ H' := by
  refine ⟨v, hv, (by show 1 ≤ 1000; decide), fun a ha => ⟨a, v, rfl, upd_same, fun dx h1 h2 => ⟨rfl, dx, _, upd_same, ?_, ?_, k dx _ (fun b x hb => ?_) upd_same⟩⟩⟩
  · rw [upd_ne h2, upd_same]
  · rw [upd_ne h2] at h1
    exact h1
  · have n1 : b ≠ a := ne_of_none hb ha
    have n2 : b ≠ dx := fun z => by
      rw [upd_ne h2, ← z, hb] at h1
      cases h1
    rw [upd_ne n2, del_ne n1, upd_ne n1, upd_ne n2, upd_ne n1]
    exact hb
theorem ok__law_caught {f CP CL fP fL : Addr} {fd fdP fdL : FuncData} (F : Fun K "_law_caught" "_law_caught" s__law_caught f fd) (T : Blt mg)
    (NP : EC P w K mg base "NoPlace" "place" CP fP fdP leM "LookupError.__new__") (NL : EC P w K mg base "BadLine" "line" CL fL fdL PySem.HandSPX.veTail "ValueError.__new__")
    (e11 : PySem.W.exmOne K (.ref CP) (.ref CP) = some true) (e21 : PySem.W.exmOne K (.ref CL) (.ref CP) = some false) (e22 : PySem.W.exmOne K (.ref CL) (.ref CL) = some true) :
    FnOk P w K mg base CX0 3 f fd ["way_so", "worth"] (spD K 2 R__law_caught) := by
  refine F.ok sc__law_caught (fun vs H Q E h => ?_) (fun cdv A outer s H vs Q E hr h => ?_)
  · obtain ⟨as, d, h, hl, _⟩ := h
    rw [h.length, hl]
    rfl
  · obtain ⟨as, d, h, hl, ⟨way, y, rfl, hw, rfl⟩, q⟩ := h
    refine ⟨_, pss_one (ps_try_named rfl rfl sc__law_caught.nd takes0 (fun W pn xe tk po =>
      pss_cons (ps_if (pt_cmpR op_eq (pv 0) pe_int (nomark _)) (pss_one (ps_raise rfl tk (pmk_errP PySem.F.excBase_LookupError NP.er NP.ini NP.ty NP.fn hr NP.bi pass0 (by rfl) NP.gl (pa_cons (pv 1) pa_nil)))) pss_nil)
      (pss_cons (ps_if (pt_cmpR op_eq (pv 0) pe_int (nomark _)) (pss_one (ps_raise rfl tk (pmk_errP PySem.F.excBase_ValueError NL.er NL.ini NL.ty NL.fn hr NL.bi pass0 (by rfl) NL.gl (pa_cons (pv 1) pa_nil)))) pss_nil)
      (pss_cons (ps_if (pt_cmpR op_eq (pv 0) pe_int (nomark _)) (pss_one (ps_raise rfl tk (pmk_errK PySem.F.excBase_LookupError NP.er NP.ini NP.ty NP.fn hr NP.kb pass0 (by rfl) NP.gl (pk_cons (pv 1) pk_nil) pk_len1))) pss_nil)
      (pss_one (ps_raise rfl tk (pmk_errK PySem.F.excBase_ValueError NL.er NL.ini NL.ty NL.fn hr NL.kb pass0 (by rfl) NL.gl (pk_cons (pv 1) pk_nil) pk_len1))))))
      (.cons (i := 2) ⟨by rfl, by decide, .inl NP.gl⟩ rfl rfl (fun a oe cls d pn hz hf => pss_one (ps_ret (pe_lst (pa_cons pe_str (pa_cons (pe_xf NP.xf NP.no hz hf (pv 2)) pa_nil)))))
      (.cons (i := 2) ⟨by rfl, by decide, .inl NL.gl⟩ rfl rfl (fun a oe cls d pn hz hf => pss_one (ps_ret (pe_lst (pa_cons pe_str (pa_cons (pe_xf NL.xf NL.no hz hf (pv 2)) pa_nil))))) .nil))), ?_⟩
    obtain rfl : vs = [.int way, .int y] := by
      cases h with
      | cons h t =>
        cases t with
        | cons h2 t =>
          cases t
          rw [dd_int h, dd_int h2]
    have E0 : En K (hide H []) (L2.start N__law_caught [.int way, .int y]) (startD N__law_caught [.int way, .int y]) := by
      exact en0 (en_start (N__law_caught.length - [PyData.int way, PyData.int y].length) h)
    obtain ⟨v1, hv1, dv⟩ := E0.get (i := 1) (d := .int y) (by rfl)
    cases dd_int dv
    have fin : ∀ (x : Str) {H' : Hp} {dd : Addr} {f : Str} {D : Addr} {a : Addr} {ts : TS}, Ex H H' → H' dd = some (.xd [(f, .int y)]) → x = tell way → (∀ p, H' p = none → Q (.ref p) (upd H' p (.lst [.str x, .int y]))) := fun x {H'} _ _ _ _ _ e hd ex p hp => by
      subst ex
      exact q _ _ (e.trans (ex_new hp)) (.lst upd_same (.cons (.str _) (.cons (.int _) .nil)))
    refine ss_if (b := decide ((way : Int) = 0)) E0 own0 (eb_test (ev_op (ev_var (i := 0) (d := .int way) (by rfl)) ev_int od_eqI)) fun H1 e1 W1 => ?_
    by_cases c0 : (way : Int) = 0
    · rw [decide_eq_true c0]
      refine iteT (raise1 hv1 fun dd H' e hd => ⟨true, e11, fun _ a ha => ⟨.ref a, rfl, rfl, rfl, dd, _, .int y, rfl, hd, rfl, by show 2 ≤ sizeLine; decide, fin "place" (D := a) (a := a) (ts := tNext) (e1.trans e) hd (by unfold tell; rw [if_pos (by omega)])⟩, (fun z => nomatch z)⟩)
    · rw [decide_eq_false c0]
      refine iteF ?_
      refine tnext_of ?_
      dsimp only
      refine ss_if (b := decide ((way : Int) = 1)) (E0.mono (ex_hide e1)) W1 (eb_test (ev_op (ev_var (i := 0) (d := .int way) (by rfl)) ev_int od_eqI)) fun H2 e2 W2 => ?_
      by_cases c1 : (way : Int) = 1
      · rw [decide_eq_true c1]
        refine iteT (raise1 hv1 fun dd H' e hd => ⟨false, e21, (fun z => nomatch z), fun _ => ⟨true, e22, fun _ a ha => ⟨.ref a, rfl, rfl, rfl, dd, _, .int y, rfl, hd, rfl, by show 2 ≤ sizeLine; decide, fin "line" (D := a) (a := a) (ts := tNext) (e1.trans (e2.trans e)) hd (by unfold tell; rw [if_neg (by omega)])⟩, (fun z => nomatch z)⟩⟩)
      · rw [decide_eq_false c1]
        refine iteF ?_
        refine tnext_of ?_
        dsimp only
        refine ss_if (b := decide ((way : Int) = 2)) (E0.mono (ex_hide (e1.trans e2))) W2 (eb_test (ev_op (ev_var (i := 0) (d := .int way) (by rfl)) ev_int od_eqI)) fun H3 e3 W3 => ?_
        by_cases c2 : (way : Int) = 2
        · rw [decide_eq_true c2]
          refine iteT (raise1 hv1 fun dd H' e hd => ⟨true, e11, fun _ a ha => ⟨.ref a, rfl, rfl, rfl, dd, _, .int y, rfl, hd, rfl, by show 2 ≤ sizeLine; decide, fin "place" (D := a) (a := a) (ts := tNext) (e1.trans (e2.trans (e3.trans e))) hd (by unfold tell; rw [if_pos (by omega)])⟩, (fun z => nomatch z)⟩)
        · rw [decide_eq_false c2]
          refine iteF ?_
          refine tnext_of ?_
          dsimp only
          refine raise1 hv1 fun dd H' e hd => ⟨false, e21, (fun z => nomatch z), fun _ => ⟨true, e22, fun _ a ha => ⟨.ref a, rfl, rfl, rfl, dd, _, .int y, rfl, hd, rfl, by show 2 ≤ sizeLine; decide, fin "line" (D := a) (a := a) (ts := tNext) (e1.trans (e2.trans (e3.trans e))) hd (by unfold tell; rw [if_neg (by omega)])⟩, (fun z => nomatch z)⟩⟩
end
end K0

namespace K0
open PySem PySem.Spec PyProof.Rows L2 Ph
/-- the built-in classes of errors that stay so -/
structure BltE (mg : Str → Option Value) : Prop where
  le : mg "LookupError" = none
  ve : mg "ValueError" = none
  ke : mg "KeyError" = none
  ie : mg "IndexError" = none
/-- isinstance of an error at D, class by class -/
inductive Kits (K : PySem.W.Frag) (D : Addr) : List Value → List Bool → Prop
  | nil : Kits K D [] []
  | cons {u : Value} {b : Bool} {us : List Value} {bs : List Bool} : PySem.W.kitOne K (.ref D) u = some b → Kits K D us bs → Kits K D (u :: us) (b :: bs)
def spIs (K : PySem.W.Frag) (us : List Value) : Sp := fun vs H Q _ => ∃ (a D : Addr) (bs : List Bool), vs = [.ref a] ∧ ErrAt H a D ∧ ExcC K D ∧ Kits K D us bs ∧ ∀ v H', Ex H H' → DD K H' v (.list (bs.map PyData.bool)) → Q v H'
section
variable {P : Program} {w : World} {K : PySem.W.Frag} {mg : Str → Option Value} {base : Heap}
abbrev s__law_plain : Stmt := top 9
abbrev s__law_kinds : Stmt := top 10
theorem sc__law_plain : FnScope ["error"] ["error"] (defScope s__law_plain) := ⟨rfl, rfl, rfl, by decide +kernel, rfl, by decide +kernel, by decide +kernel⟩
theorem sc__law_kinds : FnScope ["error"] ["error"] (defScope s__law_kinds) := ⟨rfl, rfl, rfl, by decide +kernel, rfl, by decide +kernel, by decide +kernel⟩
abbrev us_plain : List Value := [.type "LookupError", .type "ValueError", .type "KeyError", .type "IndexError"]
theorem ok__law_plain {f : Addr} {fd : FuncData} (F : Fun K "_law_plain" "_law_plain" s__law_plain f fd) (T : Blt mg) (Z : BltE mg) : FnOk P w K mg base CX0 1 f fd ["error"] (spIs K us_plain) := by
  refine F.ok sc__law_plain (fun vs H Q E h => ?_) (fun cdv A outer s H vs Q E hr h => ?_)
  · obtain ⟨a, D, bs, rfl, _⟩ := h
    rfl
  · obtain ⟨a, D, bs, rfl, ea, xc, kits, q⟩ := h
    refine ⟨_, pss_one (ps_ret (pe_lst (pa_cons (pe_callB call_isO (by rfl) T.isinstance PyProof.Rows.boot_isinstance (pa_cons (pv 0) (pa_cons (pe_bltn (v := .ty "LookupError") (by rfl) Z.le (by decide +kernel) rfl) pa_nil)))
      (pa_cons (pe_callB call_isO (by rfl) T.isinstance PyProof.Rows.boot_isinstance (pa_cons (pv 0) (pa_cons (pe_bltn (v := .ty "ValueError") (by rfl) Z.ve (by decide +kernel) rfl) pa_nil)))
      (pa_cons (pe_callB call_isO (by rfl) T.isinstance PyProof.Rows.boot_isinstance (pa_cons (pv 0) (pa_cons (pe_bltn (v := .ty "KeyError") (by rfl) Z.ke (by decide +kernel) rfl) pa_nil)))
      (pa_cons (pe_callB call_isO (by rfl) T.isinstance PyProof.Rows.boot_isinstance (pa_cons (pv 0) (pa_cons (pe_bltn (v := .ty "IndexError") (by rfl) Z.ie (by decide +kernel) rfl) pa_nil))) pa_nil)))))), ?_⟩
    cases kits with | cons k1 kits => ?_
    cases kits with | cons k2 kits => ?_
    cases kits with | cons k3 kits => ?_
    cases kits with | cons k4 kits => ?_
    cases kits
    refine ⟨.ref a, rfl, a, D, _, _, _, rfl, .ty _, ea, xc, k1, .ref a, rfl, a, D, _, _, _, rfl, .ty _, ea, xc, k2, .ref a, rfl, a, D, _, _, _, rfl, .ty _, ea, xc, k3, .ref a, rfl, a, D, _, _, _, rfl, .ty _, ea, xc, k4, by show 4 ≤ sizeLine; decide, fun p hp => ?_⟩
    exact q _ _ (ex_new hp) (.lst upd_same (.cons (.bl _) (.cons (.bl _) (.cons (.bl _) (.cons (.bl _) .nil)))))
theorem ok__law_kinds {f C0 C1 C2 C3 C4 : Addr} {fd : FuncData} (F : Fun K "_law_kinds" "_law_kinds" s__law_kinds f fd) (T : Blt mg)
    (g0 : mg "NoPlace" = some (.ref C0)) (g1 : mg "BadLine" = some (.ref C1)) (g2 : mg "CanNot" = some (.ref C2)) (g3 : mg "TooMuch" = some (.ref C3)) (g4 : mg "Unfit" = some (.ref C4)) :
    FnOk P w K mg base CX0 1 f fd ["error"] (spIs K [.ref C0, .ref C1, .ref C2, .ref C3, .ref C4]) := by
  refine F.ok sc__law_kinds (fun vs H Q E h => ?_) (fun cdv A outer s H vs Q E hr h => ?_)
  · obtain ⟨a, D, bs, rfl, _⟩ := h
    rfl
  · obtain ⟨a, D, bs, rfl, ea, xc, kits, q⟩ := h
    refine ⟨_, pss_one (ps_ret (pe_lst (pa_cons (pe_callB call_isO (by rfl) T.isinstance PyProof.Rows.boot_isinstance (pa_cons (pv 0) (pa_cons (pe_glob (v := .ref C0) (by rfl) g0 rfl) pa_nil)))
      (pa_cons (pe_callB call_isO (by rfl) T.isinstance PyProof.Rows.boot_isinstance (pa_cons (pv 0) (pa_cons (pe_glob (v := .ref C1) (by rfl) g1 rfl) pa_nil)))
      (pa_cons (pe_callB call_isO (by rfl) T.isinstance PyProof.Rows.boot_isinstance (pa_cons (pv 0) (pa_cons (pe_glob (v := .ref C2) (by rfl) g2 rfl) pa_nil)))
      (pa_cons (pe_callB call_isO (by rfl) T.isinstance PyProof.Rows.boot_isinstance (pa_cons (pv 0) (pa_cons (pe_glob (v := .ref C3) (by rfl) g3 rfl) pa_nil)))
      (pa_cons (pe_callB call_isO (by rfl) T.isinstance PyProof.Rows.boot_isinstance (pa_cons (pv 0) (pa_cons (pe_glob (v := .ref C4) (by rfl) g4 rfl) pa_nil))) pa_nil))))))), ?_⟩
    cases kits with | cons k1 kits => ?_
    cases kits with | cons k2 kits => ?_
    cases kits with | cons k3 kits => ?_
    cases kits with | cons k4 kits => ?_
    cases kits with | cons k5 kits => ?_
    cases kits
    refine ⟨.ref a, rfl, a, D, _, _, _, rfl, .own _, ea, xc, k1, .ref a, rfl, a, D, _, _, _, rfl, .own _, ea, xc, k2, .ref a, rfl, a, D, _, _, _, rfl, .own _, ea, xc, k3, .ref a, rfl, a, D, _, _, _, rfl, .own _, ea, xc, k4, .ref a, rfl, a, D, _, _, _, rfl, .own _, ea, xc, k5, by show 5 ≤ sizeLine; decide, fun p hp => ?_⟩
    exact q _ _ (ex_new hp) (.lst upd_same (.cons (.bl _) (.cons (.bl _) (.cons (.bl _) (.cons (.bl _) (.cons (.bl _) .nil))))))
end
end K0

namespace K0
open PySem PySem.Spec PyProof.Rows L2 Ph
section
variable {P : Program} {w : World} {K : PySem.W.Frag} {mg : Str → Option Value} {base : Heap}
abbrev s__law_same : Stmt := top 7
abbrev N__law_same : List Str := ["got", "goal", "mine_so", "own"]
theorem sc__law_same : FnScope N__law_same ["got", "goal"] (defScope s__law_same) := ⟨rfl, rfl, rfl, by decide +kernel, rfl, by decide +kernel, by decide +kernel⟩
theorem ok__law_same {f : Addr} {fd : FuncData} (F : Fun K "_law_same" "_law_same" s__law_same f fd) (T : Blt mg) (gf : mg "_law_same" = some (.ref f)) (kf : PySem.W.keepIn K (.ref f) = true) (bf : Binds K fd ["got", "goal"] []) :
    ∀ n : Nat, FnOk P w K mg base CX0 n f fd ["got", "goal"] (spD K 2 (R_same n)) := by
  intro n
  induction n with
  | zero => exact ⟨fun vs H Q E h => (by obtain ⟨as, d, _, _, h, _⟩ := h; exact h.elim), fun A outer s H args us vs Q E hr e0 hb hv h => (by obtain ⟨as, d, _, _, h, _⟩ := h; exact h.elim)⟩
  | succ n ih =>
    have C : Cal P w K mg base "_law_same" n ["got", "goal"] (spD K 2 (R_same n)) := ⟨f, fd, gf, kf, bf, ih⟩
    refine fn_pure F sc__law_same rfl fun cdv A outer s H E hr => ?_
    refine ⟨_, (pss_cons (ps_if (pt_val (pe_callB call_isiT (by rfl) T.isinstance PyProof.Rows.boot_isinstance (pa_cons (pv 1) (pa_cons (pe_tup (pa_cons (pe_bltn (v := .ty "list") (by rfl) T.list (by decide +kernel) rfl) (pa_cons (pe_bltn (v := .ty "tuple") (by rfl) T.tuple (by decide +kernel) rfl) pa_nil))) pa_nil)))) (pss_cons (ps_if (PW.pt (pw_or (pt_cmpR op_ne (pe_callB call_isi (by rfl) T.isinstance PyProof.Rows.boot_isinstance (pa_cons (pv 0) (pa_cons (pe_bltn (v := .ty "list") (by rfl) T.list (by decide +kernel) rfl) pa_nil))) (pe_callB call_isi (by rfl) T.isinstance PyProof.Rows.boot_isinstance (pa_cons (pv 1) (pa_cons (pe_bltn (v := .ty "list") (by rfl) T.list (by decide +kernel) rfl) pa_nil))) (nomark _)) (pw_or1 (pt_cmpR op_ne (pe_callB call_isi (by rfl) T.isinstance PyProof.Rows.boot_isinstance (pa_cons (pv 0) (pa_cons (pe_bltn (v := .ty "tuple") (by rfl) T.tuple (by decide +kernel) rfl) pa_nil))) (pe_callB call_isi (by rfl) T.isinstance PyProof.Rows.boot_isinstance (pa_cons (pv 1) (pa_cons (pe_bltn (v := .ty "tuple") (by rfl) T.tuple (by decide +kernel) rfl) pa_nil))) (nomark _))))) (pss_one (ps_ret pe_bl)) pss_nil)
      (pss_one (ps_ret (pe_and (pe_cmpR op_eq (pe_callB call_len_seq (by rfl) T.len PySem.boot_len (pa_cons (pv 0) pa_nil)) (pe_callB call_len_seq (by rfl) T.len PySem.boot_len (pa_cons (pv 1) pa_nil)) (nomark _)) (pe_one (pe_callB (cr_all rfl) (by rfl) T.all (by decide +kernel) (pa_cons (pe_lc (own := [("mine_so", 2), ("own", 3)]) (g := (gTup K 2 (gCons (gName 2) (gCons (gName 3) gNil)))) (tt := tYes) (te := (tCall (spHide _) [] E0 (tCons (tVar 2) (tCons (tVar 3) tNil)))) rfl sc__law_same.nd (RZ.pi_zipA (by rfl) T.zip (pa_cons (pv 0) (pa_cons (pv 1) pa_nil))) (blkOk_by (N := N__law_same) (sc := defScope s__law_same) (by decide +kernel)) (fun _ _ _ _ _ => by exact (pg_tup rfl (pgs_cons (pg_name (i := 2) sc__law_same.nd rfl (Or.inl rfl)) (pgs_cons (pg_name (i := 3) sc__law_same.nd rfl (Or.inl rfl)) pgs_nil)))) (fun _ _ _ _ _ => by exact pts_nil) (fun _ _ _ _ _ => by exact (pe_cal C hr (by rfl) (pa_cons (pv 2) (pa_cons (pv 3) pa_nil))))) pa_nil))))))) pss_nil)
      (pss_cons (ps_if (PW.pt (pw_or (pt_cmp (pc_isN (pv 1)) rfl) (pw_or1 (pt_val (pe_callB call_isiT (by rfl) T.isinstance PyProof.Rows.boot_isinstance (pa_cons (pv 1) (pa_cons (pe_tup (pa_cons (pe_bltn (v := .ty "bool") (by rfl) T.bool (by decide +kernel) rfl) (pa_cons (pe_bltn (v := .ty "str") (by rfl) T.str (by decide +kernel) rfl) pa_nil))) pa_nil))))))) (pss_one (ps_ret (pe_and (pe_cmpR op_eq (pv 0) (pv 1) (nomark _)) (pe_and (pe_cmpR op_eq (pe_callB call_isi (by rfl) T.isinstance PyProof.Rows.boot_isinstance (pa_cons (pv 0) (pa_cons (pe_bltn (v := .ty "bool") (by rfl) T.bool (by decide +kernel) rfl) pa_nil))) (pe_callB call_isi (by rfl) T.isinstance PyProof.Rows.boot_isinstance (pa_cons (pv 1) (pa_cons (pe_bltn (v := .ty "bool") (by rfl) T.bool (by decide +kernel) rfl) pa_nil))) (nomark _)) (pe_one (pe_cmpR op_eq (pe_cmp (pc_isN (pv 0)) rfl) (pe_cmp (pc_isN (pv 1)) rfl) (nomark _))))))) pss_nil)
      (pss_one (ps_ret (pe_and (pe_callB call_isi (by rfl) T.isinstance PyProof.Rows.boot_isinstance (pa_cons (pv 0) (pa_cons (pe_bltn (v := .ty "int") (by rfl) T.int (by decide +kernel) rfl) pa_nil))) (pe_and (pe_not (pe_callB call_isi (by rfl) T.isinstance PyProof.Rows.boot_isinstance (pa_cons (pv 0) (pa_cons (pe_bltn (v := .ty "bool") (by rfl) T.bool (by decide +kernel) rfl) pa_nil)))) (pe_one (pe_cmpR op_eq (pv 0) (pv 1) (nomark _))))))))), fun as d hl hR => ?_⟩
    obtain ⟨a, rfl, ok, rfl⟩ := hR
    cases a with
    | none => exact sr_ifRet (eb_B (ev_is_list_tuple (ev_var rfl))) (fun h => nomatch h) (fun _ => sr_ifRet (eb_or (eb_B (ev_isNone (ev_var rfl))) fun _ => eb_B (ev_is_bool_str (ev_var rfl))) (fun _ => sr_to (sr_ret (ev_andV (ev_op (ev_var rfl) (ev_var rfl) (od_eqS rfl)) fun _ => (ev_andV (ev_op (ev_is_bool (ev_var rfl)) (ev_is_bool (ev_var rfl)) od_eqB) fun _ => (ev_op (ev_isNone (ev_var rfl)) (ev_isNone (ev_var rfl)) od_eqB)))) rfl) (fun h => nomatch h))
    | bool b => exact sr_ifRet (eb_B (ev_is_list_tuple (ev_var rfl))) (fun h => nomatch h) (fun _ => sr_ifRet (eb_or (eb_B (ev_isNone (ev_var rfl))) fun _ => eb_B (ev_is_bool_str (ev_var rfl))) (fun _ => sr_to (sr_ret (ev_andV (ev_op (ev_var rfl) (ev_var rfl) (od_eqS rfl)) fun _ => (ev_andV (ev_op (ev_is_bool (ev_var rfl)) (ev_is_bool (ev_var rfl)) od_eqB) fun _ => (ev_op (ev_isNone (ev_var rfl)) (ev_isNone (ev_var rfl)) od_eqB)))) rfl) (fun h => nomatch h))
    | str b => exact sr_ifRet (eb_B (ev_is_list_tuple (ev_var rfl))) (fun h => nomatch h) (fun _ => sr_ifRet (eb_or (eb_B (ev_isNone (ev_var rfl))) fun _ => eb_B (ev_is_bool_str (ev_var rfl))) (fun _ => sr_to (sr_ret (ev_andV (ev_op (ev_var rfl) (ev_var rfl) (od_eqS rfl)) fun _ => (ev_andV (ev_op (ev_is_bool (ev_var rfl)) (ev_is_bool (ev_var rfl)) od_eqB) fun _ => (ev_op (ev_isNone (ev_var rfl)) (ev_isNone (ev_var rfl)) od_eqB)))) rfl) (fun h => nomatch h))
    | int i => exact sr_ifRet (eb_B (ev_is_list_tuple (ev_var rfl))) (fun h => nomatch h) (fun _ => sr_ifRet (eb_or (eb_B (ev_isNone (ev_var rfl))) fun _ => eb_B (ev_is_bool_str (ev_var rfl))) (fun h => nomatch h) (fun _ => sr_to (sr_ret (ev_andV (ev_is_int (ev_var rfl)) fun _ => (ev_andV (ev_notV (ev_is_bool (ev_var rfl))) fun _ => (ev_op (ev_var rfl) (ev_var rfl) (od_eqS rfl))))) rfl))
    | dict kvs => cases n <;> cases ok
    | list es =>
      cases n with
      | zero => cases ok
      | succ n =>
        obtain ⟨hl, hes⟩ := ok
        refine sr_ifRet (eb_B (ev_is_list_tuple (ev_var rfl))) (fun _ => sr_ifRet (eb_or (eb_test (ev_op (ev_is_list (ev_var rfl)) (ev_is_list (ev_var rfl)) od_neB)) fun _ => (eb_test (ev_op (ev_is_tuple (ev_var rfl)) (ev_is_tuple (ev_var rfl)) od_neB))) (fun h => nomatch h) (fun _ => ?_)) (fun h => nomatch h)
        refine sr_to (sr_ret (ev_andV (ev_op (ev_cb (ea_cons (ev_var rfl) ea_nil) cb_lenL) (ev_cb (ea_cons (ev_var rfl) ea_nil) cb_lenL) od_eqI) fun _ => (ev_allc (fun e => .tuple [e, e]) (fun _ => true) _ (zipD_self es ▸ ei_zipL (ev_var rfl) (ev_var rfl)) hl (gw_two (by simp) (by simp)) (fun e _ => gt_two) (fun e he o => ev_call (ea_cons (ev_var rfl) (ea_cons (ev_var rfl) ea_nil)) rfl ⟨e, rfl, hes e he, rfl⟩)))) ?_
        rw [List.all_eq_true.mpr (fun _ _ => rfl), decide_eq_true rfl]
        rfl
    | tuple es =>
      cases n with
      | zero => cases ok
      | succ n =>
        obtain ⟨hl, hes⟩ := ok
        refine sr_ifRet (eb_B (ev_is_list_tuple (ev_var rfl))) (fun _ => sr_ifRet (eb_or (eb_test (ev_op (ev_is_list (ev_var rfl)) (ev_is_list (ev_var rfl)) od_neB)) fun _ => (eb_test (ev_op (ev_is_tuple (ev_var rfl)) (ev_is_tuple (ev_var rfl)) od_neB))) (fun h => nomatch h) (fun _ => ?_)) (fun h => nomatch h)
        refine sr_to (sr_ret (ev_andV (ev_op (ev_cb (ea_cons (ev_var rfl) ea_nil) cb_lenT) (ev_cb (ea_cons (ev_var rfl) ea_nil) cb_lenT) od_eqI) fun _ => (ev_allc (fun e => .tuple [e, e]) (fun _ => true) _ (zipD_self es ▸ ei_zipT (ev_var rfl) (ev_var rfl)) hl (gw_two (by simp) (by simp)) (fun e _ => gt_two) (fun e he o => ev_call (ea_cons (ev_var rfl) (ea_cons (ev_var rfl) ea_nil)) rfl ⟨e, rfl, hes e he, rfl⟩)))) ?_
        rw [List.all_eq_true.mpr (fun _ _ => rfl), decide_eq_true rfl]
        rfl
end
end K0

namespace K0
open PySem PySem.Spec PyProof.Rows L2 Ph
section
variable {K : PySem.W.Frag} {σ : L2.St} {H : Hp} {Q : VK}
theorem ex_two {H : Hp} {a dx : Addr} {o1 o2 x : HO} (ha : H a = none) (hx : (upd H a o1) dx = none) (ne : dx ≠ a) : Ex H (upd (upd (upd H a o1) dx x) a o2) := fun b y e => by
  have n1 : b ≠ a := ne_of_none e ha
  have n2 : b ≠ dx := fun z => by
    rw [upd_ne ne] at hx
    rw [z, hx] at e
    cases e
  rw [upd_ne n1, upd_ne n2, upd_ne n1]
  exact e
theorem err_new {C : Addr} {f : Str} {y : Int} (k : ∀ a H', Ex H H' → ErrAt H' a C → Q (.ref a) H') : tErrV C (spKeep f C) (tCons (tC (.int y)) tNil) σ H Q :=
  ⟨by show 1 ≤ 1000; decide, fun a ha => ⟨a, .int y, rfl, upd_same, fun dx h1 h2 => ⟨rfl, k a _ (ex_two ha h1 h2) (.inl ⟨dx, _, upd_same, by rw [upd_ne h2, upd_same]⟩)⟩⟩⟩
theorem ss_asg {te : TE} {i : Nat} {u : TS} {D : Ends} (h : te σ H fun v H1 => u D (σ.set i (some v)) H1) : tSeq (tAsg te (gName i)) u D σ H := h
theorem lst_new {ta : TA} (h : ta σ H fun vs H1 => vs.length ≤ sizeLine ∧ ∀ p, H1 p = none → Q (.ref p) (upd H1 p (.lst vs))) : tLst ta σ H Q := h
theorem cons_new {te : TE} {ta : TA} {R : List V → Hp → Prop} (h : te σ H fun v H1 => ta σ H1 fun vs H2 => R (v :: vs) H2) : tCons te ta σ H R := h
/-- [f(own) for own in objects], f's promise item by item -/
theorem lc_objs {i0 j : Nat} {L : Addr} {xs : List V} {sp : Sp} (f : Nat → PyData) (h0 : σ[i0]? = some (some (.ref L))) (hL : H L = some (.lst xs)) (ne : i0 ≠ j) (hj : j < σ.length) (hxs : xs.length ≤ 1000)
    (hsp : ∀ i x, xs[i]? = some x → ∀ G Q', Ex H G → (∀ v G', Ex G G' → DD K G' v (f i) → Q' v G') → sp [x] G Q' E0)
    (q : ∀ v H', Ex H H' → DD K H' v (.list ((List.range xs.length).map f)) → Q v H') : tLc (iList K (tVar i0)) (gName j) tYes (tCall (spHide sp) [] E0 (tCons (tVar j) tNil)) [j] σ H Q := by
  refine ⟨.ref L, h0, L, rfl, ⟨xs, SqL.of hL⟩, fun D nD => ?_⟩
  refine ⟨fun i m H2 => m = xs.length - i ∧ i ≤ xs.length ∧ Ex H H2 ∧ ∃ acc, H2 D = some (.lst acc) ∧ DDs K (hide H2 [D]) acc ((List.range i).map f), ⟨xs.length, rfl, Nat.zero_le _, ex_new nD, [], upd_same, .nil⟩, fun i m H2 w => ?_⟩
  obtain ⟨rfl, hi, ex2, acc, hD, t⟩ := w
  have hs : SqL K H2 L xs := SqL.of (ex2 _ _ hL)
  have frz : Ex H (hide H2 [D]) := fun a x e => by
    rw [hide_out (fun m => (ne_of_none e nD) (List.mem_singleton.mp m))]
    exact ex2 _ _ e
  by_cases cl : i < xs.length
  · obtain ⟨x, hx⟩ : ∃ x, xs[i]? = some x := ⟨_, List.getElem?_eq_getElem cl⟩
    refine .inr ⟨⟨xs, x, hs, hx⟩, fun H3 => Ex H H3 ∧ ∃ acc, H3 D = some (.lst acc) ∧ DDs K (hide H3 [D]) acc ((List.range (i + 1)).map f), fun H' n => ⟨xs.length - (i + 1), by omega, rfl, cl, n.1, n.2⟩, fun y H' yl => ?_⟩
    obtain ⟨rfl, g⟩ := yl
    have e := g xs hs
    rw [hx] at e
    cases Option.some.inj e
    refine ⟨(wipe_set (List.mem_singleton.mpr rfl)).trans (wipe_wipe fun v h => h), ?_⟩
    show tCall (spHide sp) [] E0 (tCons (tVar j) tNil) _ _ _
    have W2 : Owned H' [D] := fun a ha => by
      rw [List.mem_singleton.mp ha]
      exact ⟨_, hD, True.intro⟩
    have lw : ((L2.wipe σ [j]).set j (some x))[j]? = some (some x) := by
      exact List.getElem?_set_self (by show j < (σ.set j none).length; rw [List.length_set]; exact hj)
    refine ⟨x, lw, [D], W2, hsp i x hx _ _ frz fun v G eG dv gD => ?_⟩
    have bx := back_ex (o := [D]) eG
    have bD : back H' [D] G D = some (.lst acc) := bx _ _ hD
    have bh : hide (back H' [D] G) [D] = G := back_hide gD
    refine ⟨acc, bD, ?_, fun a z e => ?_, acc ++ [v], upd_same, ?_⟩
    · have l := t.length
      rw [List.length_map, List.length_range] at l
      rw [sizeLine_eq]
      omega
    · rw [upd_ne (ne_of_none e nD)]
      exact bx _ _ (ex2 _ _ e)
    · have hh : hide (upd (back H' [D] G) D (.lst (acc ++ [v]))) [D] = hide (back H' [D] G) [D] := by
        funext a
        by_cases m : a ∈ [D]
        · rw [hide_in m, hide_in m]
        · rw [hide_out m, hide_out m, upd_ne (fun z => m (by rw [z]; exact List.mem_cons_self))]
      rw [hh, bh, List.range_succ, List.map_append]
      exact (t.mono eG).append (.cons dv .nil)
  · have ei : i = xs.length := by omega
    subst ei
    refine .inl ⟨⟨xs, hs, Nat.le_refl _⟩, q _ H2 ex2 (.lst hD (t.mono hide_ex))⟩
theorem ev_rep {o : List Addr} {ds : List (Option PyData)} {ta tb : TE} {as : List PyData} {n : Int} (h1 : EvD K o ta ds (.list as)) (h2 : EvD K o tb ds (.int n)) (n1 : -(2 ^ 63) ≤ n) (n2 : n < 2 ^ 63) (hl : as.length * n.toNat ≤ sizeLine) :
    EvD K o (tOp rRep ta tb) ds (.list (List.replicate n.toNat as).flatten) := fun σ H E W Q q =>
  ef_rep h1 h2 n1 n2 hl σ H E W Q fun p vs H1 H2 e1 W1 hp e2 t => by
    subst e2
    exact q _ _ (e1.trans (ex_new hp)) (ow_mono W1 (ex_new hp)) (.lst (hide_new W1 hp) (t.mono (ex_hide (ex_new hp))))
end
section
variable {P : Program} {w : World} {K : PySem.W.Frag} {mg : Str → Option Value} {base : Heap}
abbrev s__law_by_hand_right : Stmt := top 11
abbrev N__law_by_hand_right : List Str := ["made_so", "told", "own", "due", "far", "k"]
theorem sc__law_by_hand_right : FnScope N__law_by_hand_right [] (defScope s__law_by_hand_right) := ⟨rfl, rfl, rfl, by decide +kernel, rfl, by decide +kernel, by decide +kernel⟩
abbrev scK : Scope := { kind := .function, names := [(".0", .local), ("k", .cell), ("range", .globalImplicit)], isGenerator := false, isCoroutine := false }
abbrev bsP (i : Nat) : List Bool := [decide (i = 0), !decide (i = 0), false, false]
abbrev bsK (i : Nat) : List Bool := (List.range 5).map fun j => decide ((0 : Int) + (i : Nat) = 0 + (j : Nat))
abbrev fP (i : Nat) : PyData := .list ((bsP i).map PyData.bool)
abbrev fK (i : Nat) : PyData := .list ((bsK i).map PyData.bool)
theorem ok__law_by_hand_right {f C0 C1 C2 C3 C4 fI0 fI1 : Addr} {fd fd0 fd1 : FuncData} (F : Fun K "_law_by_hand_right" "_law_by_hand_right" s__law_by_hand_right f fd) (T : Blt mg)
    (NP : EC P w K mg base "NoPlace" "place" C0 fI0 fd0 leM "LookupError.__new__") (NL : EC P w K mg base "BadLine" "line" C1 fI1 fd1 PySem.HandSPX.veTail "ValueError.__new__")
    (q2 : PySem.W.excIn K C2 PySem.HandSPX.veTail "ValueError.__new__" = true) (q3 : PySem.W.excIn K C3 PySem.HandSPX.veTail "ValueError.__new__" = true) (q4 : PySem.W.excIn K C4 PySem.HandSPX.veTail "ValueError.__new__" = true)
    (g2 : mg "CanNot" = some (.ref C2)) (g3 : mg "TooMuch" = some (.ref C3)) (g4 : mg "Unfit" = some (.ref C4)) (k2 : PySem.W.keepIn K (.ref C2) = true) (k3 : PySem.W.keepIn K (.ref C3) = true) (k4 : PySem.W.keepIn K (.ref C4) = true)
    (x2 : ExcC K C2) (x3 : ExcC K C3) (x4 : ExcC K C4)
    (P0 : Kits K C0 us_plain (bsP 0)) (P1 : Kits K C1 us_plain (bsP 1)) (P2 : Kits K C2 us_plain (bsP 2)) (P3 : Kits K C3 us_plain (bsP 3)) (P4 : Kits K C4 us_plain (bsP 4))
    (U0 : Kits K C0 [.ref C0, .ref C1, .ref C2, .ref C3, .ref C4] (bsK 0)) (U1 : Kits K C1 [.ref C0, .ref C1, .ref C2, .ref C3, .ref C4] (bsK 1)) (U2 : Kits K C2 [.ref C0, .ref C1, .ref C2, .ref C3, .ref C4] (bsK 2)) (U3 : Kits K C3 [.ref C0, .ref C1, .ref C2, .ref C3, .ref C4] (bsK 3)) (U4 : Kits K C4 [.ref C0, .ref C1, .ref C2, .ref C3, .ref C4] (bsK 4))
    (C__law_plain : Cal P w K mg base "_law_plain" 1 ["error"] (spIs K us_plain)) (C__law_kinds : Cal P w K mg base "_law_kinds" 1 ["error"] (spIs K [.ref C0, .ref C1, .ref C2, .ref C3, .ref C4]))
    (C__law_same : Cal P w K mg base "_law_same" 6 ["got", "goal"] (spD K 2 (R_same 6))) : FnOk P w K mg base CX0 7 f fd [] (spD K 0 fun as d => as = [] ∧ d = .bool true) := by
  refine F.ok sc__law_by_hand_right (fun vs H Q E h => ?_) (fun cdv A outer s H vs Q E hr h => ?_)
  · obtain ⟨as, d, h, hl, _⟩ := h
    rw [h.length, hl]
    rfl
  · obtain ⟨as, d, h, hl, ⟨rfl, rfl⟩, q⟩ := h
    cases h
    refine ⟨_, (pss_cons (ps_set (i := 0) sc__law_by_hand_right.nd rfl (Or.inl rfl) (pe_lst (pa_cons (pe_errV PySem.F.excBase_LookupError NP.er NP.ini NP.ty NP.fn (hr.mono (by decide)) NP.bi pass0 (by rfl) NP.gl (pa_cons pe_int pa_nil)) (pa_cons (pe_errV PySem.F.excBase_ValueError NL.er NL.ini NL.ty NL.fn (hr.mono (by decide)) NL.bi pass0 (by rfl) NL.gl (pa_cons pe_int pa_nil))
      (pa_cons (pe_err0 PySem.F.excBase_ValueError q2 g2 k2 (by rfl)) (pa_cons (pe_err0 PySem.F.excBase_ValueError q3 g3 k3 (by rfl)) (pa_cons (pe_err0 PySem.F.excBase_ValueError q4 g4 k4 (by rfl)) pa_nil)))))))
      (pss_cons (ps_setLc (i := 1) (own := [("own", 2)]) (g := (gName 2)) (tt := tYes) (te := (tCall (spHide _) [] E0 (tCons (tVar 2) tNil))) rfl sc__law_by_hand_right.nd rfl rfl (sw_true rfl rfl rfl (by decide +kernel)) (pi_list (pv 0)) (blkOk_by (N := N__law_by_hand_right) (sc := defScope s__law_by_hand_right) (by decide +kernel)) (fun _ _ _ _ _ => by exact (pg_name (i := 2) sc__law_by_hand_right.nd rfl (Or.inl rfl))) (fun _ _ _ _ _ => by exact pts_nil) (fun _ _ _ _ _ => by exact (pe_cal C__law_plain (hr.mono (by decide)) (by rfl) (pa_cons (pv 2) pa_nil))))
      (pss_cons (ps_set (i := 3) sc__law_by_hand_right.nd rfl (Or.inl rfl) (pe_op op_cat (pe_lst (pa_cons (pe_lst (pa_cons pe_bl (pa_cons pe_bl (pa_cons pe_bl (pa_cons pe_bl pa_nil))))) pa_nil)) (pe_op op_rep (pe_lst (pa_cons (pe_lst (pa_cons pe_bl (pa_cons pe_bl (pa_cons pe_bl (pa_cons pe_bl pa_nil))))) pa_nil)) pe_int)))
      (pss_cons (ps_set (i := 1) sc__law_by_hand_right.nd rfl (Or.inl rfl) (pe_op op_cat (pv 1) (pe_lc (own := [("own", 2)]) (g := (gName 2)) (tt := tYes) (te := (tCall (spHide _) [] E0 (tCons (tVar 2) tNil))) rfl sc__law_by_hand_right.nd (pi_list (pv 0)) (blkOk_by (N := N__law_by_hand_right) (sc := defScope s__law_by_hand_right) (by decide +kernel)) (fun _ _ _ _ _ => by exact (pg_name (i := 2) sc__law_by_hand_right.nd rfl (Or.inl rfl))) (fun _ _ _ _ _ => by exact pts_nil) (fun _ _ _ _ _ => by exact (pe_cal C__law_kinds (hr.mono (by decide)) (by rfl) (pa_cons (pv 2) pa_nil))))))
      (pss_cons (ps_set (i := 3) sc__law_by_hand_right.nd rfl (Or.inl rfl) (pe_op op_cat (pv 3) (pe_lc (own := [("k", 5)]) (g := (gName 5)) (tt := tYes) (te := (tLc (iRng1 (tCons (tC (.int 5)) tNil)) (gName 4) tYes (tOp _ (tVar 5) (tVar 4)) [4])) rfl sc__law_by_hand_right.nd (pi_range1 rfl T.range (pa_cons pe_int pa_nil)) (blkOk_by (N := N__law_by_hand_right) (sc := defScope s__law_by_hand_right) (by decide +kernel)) (fun _ _ _ _ _ => by exact (pg_name (i := 5) sc__law_by_hand_right.nd rfl (Or.inr rfl))) (fun _ _ _ _ _ => by exact pts_nil) (fun _ _ _ _ _ => by exact (pe_lc (own := [("far", 4)]) (g := (gName 4)) (tt := tYes) (te := (tOp _ (tVar 5) (tVar 4))) rfl sc__law_by_hand_right.nd (pi_range1 rfl T.range (pa_cons pe_int pa_nil)) (blkOk_by (N := N__law_by_hand_right) (sc := scK) (by decide +kernel)) (fun _ _ _ _ _ => by exact (pg_name (i := 4) sc__law_by_hand_right.nd rfl (Or.inl rfl))) (fun _ _ _ _ _ => by exact pts_nil) (fun _ _ _ _ _ => by exact (pe_cmpR op_eq (pv 5) (pv 4) (nomark _))))))))
      (pss_one (ps_ret (pe_cal C__law_same (hr.mono (by decide)) (by rfl) (pa_cons (pv 1) (pa_cons (pv 3) pa_nil)))))))))), ?_⟩
    refine ss_asg ?_
    refine lst_new (cons_new ?_)
    refine err_new (fun a0 H0 e0 w0 => ?_)
    refine cons_new ?_
    refine err_new (fun a1 H1 e1 w1 => ?_)
    refine fun a2 n2 => ?_
    refine fun a3 n3 => ?_
    refine fun a4 n4 => ⟨(by show 5 ≤ sizeLine; decide), fun L nL => ?_⟩
    have x2' := ex_new (x := ExO (.ref C2) a2) n2
    have x3' := ex_new (x := ExO (.ref C3) a3) n3
    have x4' := ex_new (x := ExO (.ref C4) a4) n4
    have xL := ex_new (x := .lst [.ref a0, .ref a1, .ref a2, .ref a3, .ref a4]) nL
    have all : ∀ i x, [V.ref a0, .ref a1, .ref a2, .ref a3, .ref a4][i]? = some x → ∃ a D, x = .ref a ∧ ErrAt (upd (upd (upd (upd H1 a2 (ExO (.ref C2) a2)) a3 (ExO (.ref C3) a3)) a4 (ExO (.ref C4) a4)) L (.lst [.ref a0, .ref a1, .ref a2, .ref a3, .ref a4])) a D ∧ ExcC K D ∧ Kits K D us_plain (bsP i) ∧ Kits K D [.ref C0, .ref C1, .ref C2, .ref C3, .ref C4] (bsK i) := by
      intro i x hx
      match i, hx with
      | 0, hx => cases Option.some.inj hx; exact ⟨a0, C0, rfl, w0.mono (e1.trans (x2'.trans (x3'.trans (x4'.trans xL)))), NP.xc, P0, U0⟩
      | 1, hx => cases Option.some.inj hx; exact ⟨a1, C1, rfl, w1.mono (x2'.trans (x3'.trans (x4'.trans xL))), NL.xc, P1, U1⟩
      | 2, hx => cases Option.some.inj hx; exact ⟨a2, C2, rfl, ErrAt.mono (.inr upd_same) (x3'.trans (x4'.trans xL)), x2, P2, U2⟩
      | 3, hx => cases Option.some.inj hx; exact ⟨a3, C3, rfl, ErrAt.mono (.inr upd_same) (x4'.trans xL), x3, P3, U3⟩
      | 4, hx => cases Option.some.inj hx; exact ⟨a4, C4, rfl, ErrAt.mono (.inr upd_same) xL, x4, P4, U4⟩
      | i + 5, hx => simp at hx
    have eL : Ex H (upd (upd (upd (upd H1 a2 (ExO (.ref C2) a2)) a3 (ExO (.ref C3) a3)) a4 (ExO (.ref C4) a4)) L (.lst [.ref a0, .ref a1, .ref a2, .ref a3, .ref a4])) := e0.trans (e1.trans (x2'.trans (x3'.trans (x4'.trans xL))))
    have hL : (upd (upd (upd (upd H1 a2 (ExO (.ref C2) a2)) a3 (ExO (.ref C3) a3)) a4 (ExO (.ref C4) a4)) L (.lst [.ref a0, .ref a1, .ref a2, .ref a3, .ref a4])) L = some (.lst [.ref a0, .ref a1, .ref a2, .ref a3, .ref a4]) := upd_same
    revert all eL hL
    generalize (upd (upd (upd (upd H1 a2 (ExO (.ref C2) a2)) a3 (ExO (.ref C3) a3)) a4 (ExO (.ref C4) a4)) L (.lst [.ref a0, .ref a1, .ref a2, .ref a3, .ref a4])) = H5
    intro all eL hL
    refine ss_asg (lc_objs (i0 := 0) (j := 2) fP rfl hL (by decide) (by show 2 < 6; decide) (by show 5 ≤ 1000; decide) (fun i x hx G Q' eG k => ?_) fun v6 H6 e6 d6 => ?_)
    · obtain ⟨a, D, rfl, ea, xc, kp, _⟩ := all i x hx
      exact ⟨a, D, _, rfl, ea.mono eG, xc, kp, k⟩
    have E6 : En K (hide H6 []) (((L2.start N__law_by_hand_right []).set 0 (some (.ref L))).set 1 (some v6)) [none, some (.list ((List.range 5).map fP)), none, none, none, none] :=
      .no (.yes (by rw [hide_nil]; exact d6) (.no (.no (.no (.no .nil)))))
    refine ss_set (e := .list ((List.range 5).map fP)) (o := []) E6 own0 ?s3 fun v7 H7 e7 W7 d7 => ?_
    case s3 => exact ev_op (ev_lst (ea_cons (ev_lst (ea_cons ev_bl (ea_cons ev_bl (ea_cons ev_bl (ea_cons ev_bl ea_nil)))) (by show 4 ≤ sizeLine; decide)) ea_nil) (by show 1 ≤ sizeLine; decide)) (ev_rep (n := 4) (ev_lst (ea_cons (ev_lst (ea_cons ev_bl (ea_cons ev_bl (ea_cons ev_bl (ea_cons ev_bl ea_nil)))) (by show 4 ≤ sizeLine; decide)) ea_nil) (by show 1 ≤ sizeLine; decide)) ev_int (by decide) (by decide) (by show 4 ≤ sizeLine; decide)) (od_cat (by show 5 ≤ sizeLine; decide))
    have E7 := (E6.mono (ex_hide e7)).set d7 3
    have eL7 : Ex (upd H5 0 (.lst [])) (upd H5 0 (.lst [])) := Same.refl _
    obtain ⟨v8, hv8, dv8⟩ := E7.get (i := 1) (d := .list ((List.range 5).map fP)) (by rfl)
    refine ss_asg ⟨v8, hv8, ?_⟩
    refine lc_objs (i0 := 0) (j := 2) fK rfl ((e6.trans e7) _ _ hL) (by decide) (by show 2 < 6; decide) (by show 5 ≤ 1000; decide) (fun i x hx G Q' eG k => ?_) fun v9 H9 e9 d9 => ?_
    · obtain ⟨a, D, rfl, ea, xc, _, ku⟩ := all i x hx
      exact ⟨a, D, _, rfl, ea.mono ((e6.trans e7).trans eG), xc, ku, k⟩
    refine (od_cat (K := K) (o := []) (as := (List.range 5).map fP) (bs := (List.range 5).map fK) (by show 10 ≤ sizeLine; decide)) v8 v9 H9 own0 (dv8.mono (ex_hide e9)) (by rw [hide_nil]; exact d9) _ fun v10 H10 e10 W10 d10 => ?_
    have E10 := ((E7.mono (ex_hide (e9.trans e10))).set d10 1)
    refine ss_set (e := .list ((List.range 5).map fP ++ (List.range 5).map fK)) (o := []) E10 own0 ?s5 fun v11 H11 e11 W11 d11 => ?_
    case s5 =>
      refine ev_op (ev_var (i := 3) (d := .list ((List.range 5).map fP)) (by rfl)) (ev_to (ev_lcm (fun i : Nat => PyData.int ((0 : Int) + (i : Nat))) (xs := List.range 5) (fun i : Nat => .list ((List.range 5).map fun j : Nat => .bool (decide ((0 : Int) + (i : Nat) = 0 + (j : Nat))))) _ (ei_rng1 (n := 5) ev_int (by decide) (by decide)) (by decide) (gw_name (by simp)) (fun e _ => gt_name)
        (fun i he o => ev_lcm (fun j : Nat => PyData.int ((0 : Int) + (j : Nat))) (xs := List.range 5) (fun j : Nat => .bool (decide ((0 : Int) + (i : Nat) = 0 + (j : Nat)))) _ (ei_rng1 (n := 5) ev_int (by decide) (by decide)) (by decide) (gw_name (by simp)) (fun e _ => gt_name)
          (fun j hj o => ev_op (ev_var (i := 5) (d := .int ((0 : Int) + (i : Nat))) (by rfl)) (ev_var (i := 4) (d := .int ((0 : Int) + (j : Nat))) (by rfl)) od_eqI))) rfl) (od_cat (by show 10 ≤ sizeLine; decide))
    have E11 := (E10.mono (ex_hide e11)).set d11 3
    refine sr_ret (K := K) (o := []) (d := .bool true) (ev_call (ea_cons (ev_var (i := 1) (d := .list ((List.range 5).map fP ++ (List.range 5).map fK)) (by rfl)) (ea_cons (ev_var (i := 3) (d := .list ((List.range 5).map fP ++ (List.range 5).map fK)) (by rfl)) ea_nil)) rfl ⟨_, rfl, ?ok, rfl⟩) _ _ H11 E11 own0 fun v H' e W dv => ?fin
    case ok =>
      refine ⟨by decide, fun e he => ?_⟩
      have flat : ∀ bs : List Bool, bs.length ≤ 5 → okD 4 (.list (bs.map PyData.bool)) := fun bs hb => ⟨by rw [List.length_map]; omega, fun x hx => by
        obtain ⟨b, _, rfl⟩ := List.mem_map.mp hx
        exact okD_scal rfl⟩
      rcases List.mem_append.mp he with he | he
      · obtain ⟨i, _, rfl⟩ := List.mem_map.mp he
        exact flat (bsP i) (by show 4 ≤ 5; decide)
      · obtain ⟨i, _, rfl⟩ := List.mem_map.mp he
        exact flat (bsK i) (by show ((List.range 5).map _).length ≤ 5; rw [List.length_map]; decide)
    case fin =>
      rw [hide_nil] at dv
      exact q v H' (eL.trans (e6.trans (e7.trans (e9.trans (e10.trans (e11.trans e)))))) dv
end
end K0

namespace K0
open PySem PySem.Spec PyProof.Rows L2 Ph
theorem pe_cal0 {X : Cx} {x : Str} {k : Nat} {sp : Sp} {p pos : Pos} (C : Cal X.prog X.w X.K X.mg X.base x k [] sp) (hr : Room k X.A) (hg : Gl X x)
    (hdb : (x == ("__debug__" : Str)) = false := by decide) : PE X (.Call (.Name x p) [] [] pos) (tCall (spHide sp) [] E0 tNil) := by
  obtain ⟨f, fd, hm, hk, hb, F⟩ := C
  exact pe_call0 (fn_hide F) hr hg hm hk hb .nil pass0 hdb
section
variable {P : Program} {w : World} {K : PySem.W.Frag} {mg : Str → Option Value} {base : Heap}
abbrev s_law : Stmt := top 12
abbrev N_law : List Str := ["script", "cell", "place_so", "line_so", "told"]
theorem sc_law : FnScope N_law ["script"] (defScope s_law) := ⟨rfl, rfl, rfl, by decide +kernel, rfl, by decide +kernel, by decide +kernel⟩

def spLaw (K : PySem.W.Frag) : Sp := fun vs H Q _ => ∃ (a : Addr) (ns : List Int), vs = [.ref a] ∧ SqL K H a (ns.map V.int) ∧ ns.length ≤ 63 ∧ ∀ H', Q (.bl true) H'
abbrev R_by_hand : List PyData → PyData → Prop := fun as d => as = [] ∧ d = .bool true
abbrev none5 : List (Option PyData) := [none, none, none, none, none]
theorem en_len {G : Hp} : ∀ {σ : List (Option V)} {ds : List (Option PyData)}, En K G σ ds → En K G σ (List.replicate ds.length none)
  | _, _, .nil => .nil
  | _, _, .no t => .no (en_len t)
  | _, _, .yes _ t => .no (en_len t)
theorem gn_body {tb : TS} {D : Ends} {x : V} {σ : L2.St} {H : Hp} {i : Nat} {ds ds' : List (Option PyData)} (E : En K (hide H []) (σ.set i (some x)) ds) (k : ∀ σ' H', Ex H H' → En K (hide H' []) σ' ds' → D.nx σ' H') (h : SvN K [] tb ds ds') : gName i x σ H (fun σ2 H3 => tb D σ2 H3) := h D _ H E own0 fun σ' H' e W E' => k σ' H' e E'
theorem dds_map {G : Hp} (ns : List Int) : DDs K G (ns.map V.int) (ns.map PyData.int) := dds_of_ints ns
theorem ok_law {f : Addr} {fd : FuncData} (F : Fun K "law" "law" s_law f fd) (T : Blt mg) (C0 : Cal P w K mg base "_law_by_hand_right" 7 [] (spD K 0 R_by_hand))
    (C__law_caught : Cal P w K mg base "_law_caught" 3 ["way_so", "worth"] (spD K 2 R__law_caught)) (C__law_same : Cal P w K mg base "_law_same" 6 ["got", "goal"] (spD K 2 (R_same 6))) : FnOk P w K mg base CX0 8 f fd ["script"] (spLaw K) := by
  refine F.ok sc_law (fun vs H Q E h => ?_) (fun cdv A outer s H vs Q E hr h => ?_)
  · obtain ⟨a, ns, rfl, _⟩ := h
    rfl
  · obtain ⟨a, ns, rfl, hS, hlen, q⟩ := h
    refine ⟨_, (pss_cons (ps_if (pt_not (pt_val (pe_cal0 C0 (hr.mono (by decide)) (by rfl)))) (pss_one (ps_ret pe_bl)) pss_nil)
      (pss_cons (ps_for PassesOwn.never rfl (pi_list (pe_op op_cat (pe_callTy call_list_of (by rfl) T.list (by decide +kernel) (pa_cons (pe_slice sl_list (pv 0) po_none (po_some pe_int)) pa_nil)) (pe_lst (pa_cons pe_int (pa_cons pe_int (pa_cons pe_int pa_nil)))))) (pg_name (i := 1) sc_law.nd rfl (Or.inl rfl)) (pss_cons (ps_set (i := 2) sc_law.nd rfl (Or.inl rfl) (pe_op op_mod (pe_callTy call_int1 (by rfl) T.int (by decide +kernel) (pa_cons (pe_callB call_abs (by rfl) T.abs (by decide +kernel) (pa_cons (pv 1) pa_nil)) pa_nil)) pe_int))
      (pss_cons (ps_set (i := 3) sc_law.nd rfl (Or.inl rfl) (pe_op op_add (pv 2) pe_int))
      (pss_cons (ps_set (i := 4) sc_law.nd rfl (Or.inl rfl) (pe_lst (pa_cons (pe_cal C__law_caught (hr.mono (by decide)) (by rfl) (pa_cons pe_int (pa_cons (pv 2) pa_nil))) (pa_cons (pe_cal C__law_caught (hr.mono (by decide)) (by rfl) (pa_cons pe_int (pa_cons (pv 3) pa_nil))) (pa_cons (pe_cal C__law_caught (hr.mono (by decide)) (by rfl) (pa_cons pe_int (pa_cons (pv 2) pa_nil))) (pa_cons (pe_cal C__law_caught (hr.mono (by decide)) (by rfl) (pa_cons pe_int (pa_cons (pv 3) pa_nil))) pa_nil))))))
      (pss_one (ps_if (pt_not (pt_val (pe_cal C__law_same (hr.mono (by decide)) (by rfl) (pa_cons (pv 4) (pa_cons (pe_op op_rep (pe_lst (pa_cons (pe_lst (pa_cons pe_str (pa_cons (pv 2) pa_nil))) (pa_cons (pe_lst (pa_cons pe_str (pa_cons (pv 3) pa_nil))) pa_nil))) pe_int) pa_nil))))) (pss_one (ps_ret pe_bl)) pss_nil))))))
      (pss_one (ps_ret pe_bl)))), ?_⟩
    have E0 : En K (hide H []) (L2.start N_law [.ref a]) none5 := .no (.no (.no (.no (.no .nil))))
    refine ss_if (b := !true) E0 own0 ?hb fun H1 e1 W1 => ?_
    case hb => exact eb_not (eb_B (ev_call ea_nil rfl ⟨rfl, rfl⟩))
    refine iteF ?_
    refine tnext_of ?_
    dsimp only
    have hS1 : SqL K H1 a (ns.map V.int) := Same.seq e1 hS
    have E1 := E0.mono (ex_hide e1)
    let cs : List Int := (ns.drop (HT.sIx ns.length 0 none)).take (HT.sIx ns.length ns.length (some 8) - HT.sIx ns.length 0 none) ++ [0, 1, 999]
    have lc : cs.length ≤ 1000 := by
      show (_ ++ [(0 : Int), 1, 999]).length ≤ 1000
      rw [List.length_append, List.length_take, List.length_drop]
      show min _ _ + 3 ≤ 1000
      omega
    refine (show tFor _ _ _ _ _ _ from ?_)
    refine for_dataG (K := K) (o := []) (es := cs.map PyData.int) ?hi (fun H2 i σ' H' => Ex H2 H' ∧ En K (hide H' []) σ' none5) (fun H2 e2 W2 => ⟨Same.refl _, E1.mono (ex_hide e2)⟩) ?turn
    case hi =>
      intro R r
      refine ⟨.ref a, rfl, 8, rfl, a, ns.map V.int, rfl, hS1, fun p hp => ?_⟩
      refine ⟨p, _, rfl, .inl (SqL.of upd_same), fun l hl => ?_⟩
      refine ⟨by show 3 ≤ sizeLine; decide, fun m hm => ?_⟩
      have e3 := ex_new (x := .lst (cutV (ns.map V.int) none (some 8))) hp
      have e4 := ex_new (x := .lst (cutV (ns.map V.int) none (some 8))) hl
      have e5 := ex_new (x := .lst [V.int 0, .int 1, .int 999]) hm
      have cut : cutV (ns.map V.int) none (some 8) = ((ns.drop (HT.sIx ns.length 0 none)).take (HT.sIx ns.length ns.length (some 8) - HT.sIx ns.length 0 none)).map V.int := by
        unfold cutV
        rw [List.length_map, List.map_take, List.map_drop]
      refine ⟨l, m, _, _, rfl, rfl, e5 _ _ upd_same, upd_same, ?_, fun z hz => ?_⟩
      · rw [cut, List.length_map, List.length_take, List.length_drop, sizeLine_eq]
        show min _ _ + 3 ≤ _
        omega
      · have e6 := ex_new (x := .lst (cutV (ns.map V.int) none (some 8) ++ [V.int 0, .int 1, .int 999])) hz
        refine ⟨z, rfl, ⟨_, SqL.of upd_same⟩, ?_⟩
        have ee := e3.trans (e4.trans (e5.trans e6))
        refine r _ _ ee own0 ?_
        rw [hide_nil]
        have all : cutV (ns.map V.int) none (some 8) ++ [V.int 0, .int 1, .int 999] = cs.map V.int := by
          show _ = (_ ++ [(0 : Int), 1, 999]).map V.int
          rw [cut, List.map_append]
          rfl
        exact it_lst upd_same (by rw [all]; exact dds_of_ints cs)
    case turn =>
      intro H2 e2 W2 i σ' H' p
      obtain ⟨e3, E3⟩ := p
      refine ⟨[], ex_hide e3, own0, fun e he x H4 e4 hx => ?_, fun _ => q _⟩
      rw [List.getElem?_map] at he
      obtain ⟨c, hc, rfl⟩ := Option.map_eq_some_iff.mp he
      let p : Int := (if c < 0 then -c else c) % 1000
      have E4 : En K (hide H4 []) (σ'.set 1 (some x)) [none, some (.int c), none, none, none] := (E3.mono (ex_hide e4)).set hx 1
      refine gn_body (ds' := [none, some (.int c), some (.int p), some (.int (p + 1)), some (.list [.list [.str (tell 0), .int p], .list [.str (tell 1), .int (p + 1)], .list [.str (tell 2), .int p], .list [.str (tell 3), .int (p + 1)]])]) E4 (fun σ5 H5 e5 E5 => ⟨e3.trans (e4.trans e5), en_len E5⟩) ?body
      refine sn_seq (sn_set (i := 2) (e := .int p) ?b1) (sn_seq (sn_set (i := 3) (e := .int (p + 1)) ?b2) (sn_seq (sn_set (i := 4) (e := .list [.list [.str (tell 0), .int p], .list [.str (tell 1), .int (p + 1)], .list [.str (tell 2), .int p], .list [.str (tell 3), .int (p + 1)]]) ?b3) (sn_if (b := !true) ?b4 (fun z => nomatch z) (fun _ => sn_nil))))
      case b1 => exact ev_op (ev_cb (ea_cons (ev_cb (ea_cons (ev_var (i := 1) (d := .int c) (by rfl)) ea_nil) cb_abs) ea_nil) cb_int) (ev_int (i := 1000)) (od_mod (by decide))
      case b2 => exact ev_op (ev_var (i := 2) (d := .int p) (by rfl)) (ev_int (i := 1)) od_add
      case b3 => exact ev_lst (ea_cons (ev_call (ea_cons ev_int (ea_cons (ev_var (i := 2) (d := .int p) (by rfl)) ea_nil)) rfl ⟨0, p, rfl, by decide, rfl⟩) (ea_cons (ev_call (ea_cons ev_int (ea_cons (ev_var (i := 3) (d := .int (p + 1)) (by rfl)) ea_nil)) rfl ⟨1, p + 1, rfl, by decide, rfl⟩) (ea_cons (ev_call (ea_cons ev_int (ea_cons (ev_var (i := 2) (d := .int p) (by rfl)) ea_nil)) rfl ⟨2, p, rfl, by decide, rfl⟩) (ea_cons (ev_call (ea_cons ev_int (ea_cons (ev_var (i := 3) (d := .int (p + 1)) (by rfl)) ea_nil)) rfl ⟨3, p + 1, rfl, by decide, rfl⟩) ea_nil)))) (by show 4 ≤ sizeLine; decide)
      case b4 =>
        refine eb_not (eb_B (ev_call (ea_cons (ev_var (i := 4) (by rfl)) (ea_cons (ev_rep (n := 2) (ev_lst (ea_cons (ev_lst (ea_cons ev_str (ea_cons (ev_var (i := 2) (d := .int p) (by rfl)) ea_nil)) (by show 2 ≤ sizeLine; decide)) (ea_cons (ev_lst (ea_cons ev_str (ea_cons (ev_var (i := 3) (d := .int (p + 1)) (by rfl)) ea_nil)) (by show 2 ≤ sizeLine; decide)) ea_nil)) (by show 2 ≤ sizeLine; decide)) ev_int (by decide) (by decide) (by show 4 ≤ sizeLine; decide)) ea_nil)) rfl ⟨.list [.list [.str (tell 0), .int p], .list [.str (tell 1), .int (p + 1)], .list [.str (tell 2), .int p], .list [.str (tell 3), .int (p + 1)]], rfl, ?ok, rfl⟩))
        case ok =>
          have two : ∀ (s : Str) (y : Int), okD 4 (.list [.str s, .int y]) := fun s y => ⟨by show 2 ≤ 1000000; decide, fun e he => by
            rcases List.mem_cons.mp he with rfl | he
            · exact okD_scal rfl
            · rw [List.mem_singleton.mp he]
              exact okD_scal rfl⟩
          refine ⟨by show 4 ≤ 1000000; decide, fun e he => ?_⟩
          simp only [List.mem_cons, List.not_mem_nil, or_false] at he
          rcases he with rfl | rfl | rfl | rfl <;> exact two _ _
end
end K0

namespace K0
open PySem PySem.Spec PyProof.Rows L2 Ph
theorem cal_mk {P : Program} {w : World} {K : PySem.W.Frag} {mg : Str → Option Value} {base : Heap} {x : Str} {k : Nat} {ps : List Str} {sp : Sp} {f : Addr} {fd : FuncData} (g : mg x = some (.ref f)) (kp : PySem.W.keepIn K (.ref f) = true) (b : Binds K fd ps []) (F : FnOk P w K mg base CX0 k f fd ps sp) : Cal P w K mg base x k ps sp := ⟨f, fd, g, kp, b, F⟩
theorem all_mk {l : PySem.W.OpenLaw} {w : World} {K : PySem.W.Frag} {h : Heap} {mg : Str → Option Value} {fa C0 C1 C2 C3 C4 fI0 fI1 : Addr} (X : K.In h) (G : h.Ns mainGlobals mg) (hfa : mg "law" = some (.ref fa))
    {nm0 qn0 : Str} {N0 : Addr} {bs0 : List Value} {sn0 : List Str} {sub0 : List Value} {ab0 : Bool} {col0 : Option Bool} {dd0 : Option Addr} {v00 v10 v20 v30 v50 : Option Value}
    {odI0 anI0 : Option Addr} {slI0 : Array (Option Value)} {ocI0 kVI0 dcI0 pmI0 cdI0 ctI0 : Value}
    {nm1 qn1 : Str} {N1 : Addr} {bs1 : List Value} {sn1 : List Str} {sub1 : List Value} {ab1 : Bool} {col1 : Option Bool} {dd1 : Option Addr} {v01 v11 v21 v31 v51 : Option Value}
    {odI1 anI1 : Option Addr} {slI1 : Array (Option Value)} {ocI1 kVI1 dcI1 pmI1 cdI1 ctI1 : Value}
    {f0 f1 f2 f3 f4 f5 : Addr} {od0 an0 od1 an1 od2 an2 od3 an3 od4 an4 od5 an5 : Option Addr} {sl0 sl1 sl2 sl3 sl4 sl5 : Array (Option Value)} {oc0 kV0 dc0 pm0 cd0 ct0 oc1 kV1 dc1 pm1 cd1 ct1 oc2 kV2 dc2 pm2 cd2 ct2 oc3 kV3 dc3 pm3 cd3 ct3 oc4 kV4 dc4 pm4 cd4 ct4 oc5 kV5 dc5 pm5 cd5 ct5 : Value}
    (aC0 : PySem.W.nsIn K mainGlobals "NoPlace" = some (some (.ref C0)))
    (aC1 : PySem.W.nsIn K mainGlobals "BadLine" = some (some (.ref C1)))
    (aC2 : PySem.W.nsIn K mainGlobals "CanNot" = some (some (.ref C2)))
    (aC3 : PySem.W.nsIn K mainGlobals "TooMuch" = some (some (.ref C3)))
    (aC4 : PySem.W.nsIn K mainGlobals "Unfit" = some (some (.ref C4)))
    (xC0 : K.lookup C0 = some (excClassObj nm0 qn0 C0 N0 bs0 leM true sn0 sub0 ab0 col0 dd0 v00 v10 v20 v30 v50 "LookupError.__new__"))
    (sa0 : PySem.W.findIn K (.ref C0) "__setattr__" = some (some (.builtin "object.__setattr__")))
    (nb0 : PySem.W.findIn K (.ref C0) "place" = some none)
    (iC0 : PySem.W.findIn K (.ref C0) "__init__" = some (some (.ref fI0)))
    (tI0 : PySem.W.typeIn K (.ref fI0) = some (.type "function"))
    (lI0 : K.lookup fI0 = some ⟨ocI0, odI0, .func (PySem.W.fnOf "__init__" "NoPlace.__init__" (defArgs s_initP) (defBody s_initP) (defScope s_initP) .none kVI0 dcI0 pmI0 anI0 cdI0 ctI0), slI0⟩)
    (cI0 : PySem.W.codeIn K cdI0 "NoPlace.__init__" = true)
    (kI0 : PySem.W.keepIn K (.ref fI0) = true)
    (xC1 : K.lookup C1 = some (excClassObj nm1 qn1 C1 N1 bs1 PySem.HandSPX.veTail true sn1 sub1 ab1 col1 dd1 v01 v11 v21 v31 v51 "ValueError.__new__"))
    (sa1 : PySem.W.findIn K (.ref C1) "__setattr__" = some (some (.builtin "object.__setattr__")))
    (nb1 : PySem.W.findIn K (.ref C1) "line" = some none)
    (iC1 : PySem.W.findIn K (.ref C1) "__init__" = some (some (.ref fI1)))
    (tI1 : PySem.W.typeIn K (.ref fI1) = some (.type "function"))
    (lI1 : K.lookup fI1 = some ⟨ocI1, odI1, .func (PySem.W.fnOf "__init__" "BadLine.__init__" (defArgs s_initL) (defBody s_initL) (defScope s_initL) .none kVI1 dcI1 pmI1 anI1 cdI1 ctI1), slI1⟩)
    (cI1 : PySem.W.codeIn K cdI1 "BadLine.__init__" = true)
    (kI1 : PySem.W.keepIn K (.ref fI1) = true)
    (ex2 : PySem.W.excIn K C2 PySem.HandSPX.veTail "ValueError.__new__" = true)
    (ex3 : PySem.W.excIn K C3 PySem.HandSPX.veTail "ValueError.__new__" = true)
    (ex4 : PySem.W.excIn K C4 PySem.HandSPX.veTail "ValueError.__new__" = true)
    (kC0 : PySem.W.keepIn K (.ref C0) = true)
    (eC0 : PySem.W.subIn K (.ref C0) (.type "BaseException") = some true)
    (tC0 : PySem.W.typeIn K (.ref C0) = some (.type "type"))
    (hC0 : PySem.W.hasDictIn K C0 = true)
    (ga0 : PySem.W.findIn K (.ref C0) "__getattribute__" = some (some (.builtin "BaseException.__getattribute__")))
    (gg0 : PySem.W.findIn K (.ref C0) "__getattr__" = some none)
    (ha0 : PySem.W.findIn K (.ref C0) "__class__" = some (some (.builtin "object.__class__")))
    (hm0 : PySem.W.mroIn K C0 (.type "object") = some true)
    (kC1 : PySem.W.keepIn K (.ref C1) = true)
    (eC1 : PySem.W.subIn K (.ref C1) (.type "BaseException") = some true)
    (tC1 : PySem.W.typeIn K (.ref C1) = some (.type "type"))
    (hC1 : PySem.W.hasDictIn K C1 = true)
    (ga1 : PySem.W.findIn K (.ref C1) "__getattribute__" = some (some (.builtin "BaseException.__getattribute__")))
    (gg1 : PySem.W.findIn K (.ref C1) "__getattr__" = some none)
    (ha1 : PySem.W.findIn K (.ref C1) "__class__" = some (some (.builtin "object.__class__")))
    (hm1 : PySem.W.mroIn K C1 (.type "object") = some true)
    (kC2 : PySem.W.keepIn K (.ref C2) = true)
    (eC2 : PySem.W.subIn K (.ref C2) (.type "BaseException") = some true)
    (tC2 : PySem.W.typeIn K (.ref C2) = some (.type "type"))
    (hC2 : PySem.W.hasDictIn K C2 = true)
    (ga2 : PySem.W.findIn K (.ref C2) "__getattribute__" = some (some (.builtin "BaseException.__getattribute__")))
    (gg2 : PySem.W.findIn K (.ref C2) "__getattr__" = some none)
    (ha2 : PySem.W.findIn K (.ref C2) "__class__" = some (some (.builtin "object.__class__")))
    (hm2 : PySem.W.mroIn K C2 (.type "object") = some true)
    (kC3 : PySem.W.keepIn K (.ref C3) = true)
    (eC3 : PySem.W.subIn K (.ref C3) (.type "BaseException") = some true)
    (tC3 : PySem.W.typeIn K (.ref C3) = some (.type "type"))
    (hC3 : PySem.W.hasDictIn K C3 = true)
    (ga3 : PySem.W.findIn K (.ref C3) "__getattribute__" = some (some (.builtin "BaseException.__getattribute__")))
    (gg3 : PySem.W.findIn K (.ref C3) "__getattr__" = some none)
    (ha3 : PySem.W.findIn K (.ref C3) "__class__" = some (some (.builtin "object.__class__")))
    (hm3 : PySem.W.mroIn K C3 (.type "object") = some true)
    (kC4 : PySem.W.keepIn K (.ref C4) = true)
    (eC4 : PySem.W.subIn K (.ref C4) (.type "BaseException") = some true)
    (tC4 : PySem.W.typeIn K (.ref C4) = some (.type "type"))
    (hC4 : PySem.W.hasDictIn K C4 = true)
    (ga4 : PySem.W.findIn K (.ref C4) "__getattribute__" = some (some (.builtin "BaseException.__getattribute__")))
    (gg4 : PySem.W.findIn K (.ref C4) "__getattr__" = some none)
    (ha4 : PySem.W.findIn K (.ref C4) "__class__" = some (some (.builtin "object.__class__")))
    (hm4 : PySem.W.mroIn K C4 (.type "object") = some true)
    (hn : PySem.W.specialIn K (.builtin "object.__class__") "__get__" = some (some (.builtin "getset_descriptor.__get__")))
    (ht : PySem.W.takesIn K (.builtin "object.__class__") = some true)
    (s00 : PySem.W.subIn K (.ref C0) (.ref C0) = some true)
    (s10 : PySem.W.subIn K (.ref C1) (.ref C0) = some false)
    (s11 : PySem.W.subIn K (.ref C1) (.ref C1) = some true)
    (zL : PySem.W.nsIn K mainGlobals "LookupError" = some none)
    (zV : PySem.W.nsIn K mainGlobals "ValueError" = some none)
    (zK : PySem.W.nsIn K mainGlobals "KeyError" = some none)
    (zI : PySem.W.nsIn K mainGlobals "IndexError" = some none)
    (vL : PySem.W.findCls K (.type "LookupError") (.type "type") "__init__" = some (.val (.builtin "LookupError.__init__")))
    (vV : PySem.W.findCls K (.type "ValueError") (.type "type") "__init__" = some (.val (.builtin "ValueError.__init__")))
    (p00 : PySem.W.kitOne K (.ref C0) (.type "LookupError") = some true)
    (p01 : PySem.W.kitOne K (.ref C0) (.type "ValueError") = some false)
    (p02 : PySem.W.kitOne K (.ref C0) (.type "KeyError") = some false)
    (p03 : PySem.W.kitOne K (.ref C0) (.type "IndexError") = some false)
    (u00 : PySem.W.kitOne K (.ref C0) (.ref C0) = some true)
    (u01 : PySem.W.kitOne K (.ref C0) (.ref C1) = some false)
    (u02 : PySem.W.kitOne K (.ref C0) (.ref C2) = some false)
    (u03 : PySem.W.kitOne K (.ref C0) (.ref C3) = some false)
    (u04 : PySem.W.kitOne K (.ref C0) (.ref C4) = some false)
    (p10 : PySem.W.kitOne K (.ref C1) (.type "LookupError") = some false)
    (p11 : PySem.W.kitOne K (.ref C1) (.type "ValueError") = some true)
    (p12 : PySem.W.kitOne K (.ref C1) (.type "KeyError") = some false)
    (p13 : PySem.W.kitOne K (.ref C1) (.type "IndexError") = some false)
    (u10 : PySem.W.kitOne K (.ref C1) (.ref C0) = some false)
    (u11 : PySem.W.kitOne K (.ref C1) (.ref C1) = some true)
    (u12 : PySem.W.kitOne K (.ref C1) (.ref C2) = some false)
    (u13 : PySem.W.kitOne K (.ref C1) (.ref C3) = some false)
    (u14 : PySem.W.kitOne K (.ref C1) (.ref C4) = some false)
    (p20 : PySem.W.kitOne K (.ref C2) (.type "LookupError") = some false)
    (p21 : PySem.W.kitOne K (.ref C2) (.type "ValueError") = some true)
    (p22 : PySem.W.kitOne K (.ref C2) (.type "KeyError") = some false)
    (p23 : PySem.W.kitOne K (.ref C2) (.type "IndexError") = some false)
    (u20 : PySem.W.kitOne K (.ref C2) (.ref C0) = some false)
    (u21 : PySem.W.kitOne K (.ref C2) (.ref C1) = some false)
    (u22 : PySem.W.kitOne K (.ref C2) (.ref C2) = some true)
    (u23 : PySem.W.kitOne K (.ref C2) (.ref C3) = some false)
    (u24 : PySem.W.kitOne K (.ref C2) (.ref C4) = some false)
    (p30 : PySem.W.kitOne K (.ref C3) (.type "LookupError") = some false)
    (p31 : PySem.W.kitOne K (.ref C3) (.type "ValueError") = some true)
    (p32 : PySem.W.kitOne K (.ref C3) (.type "KeyError") = some false)
    (p33 : PySem.W.kitOne K (.ref C3) (.type "IndexError") = some false)
    (u30 : PySem.W.kitOne K (.ref C3) (.ref C0) = some false)
    (u31 : PySem.W.kitOne K (.ref C3) (.ref C1) = some false)
    (u32 : PySem.W.kitOne K (.ref C3) (.ref C2) = some false)
    (u33 : PySem.W.kitOne K (.ref C3) (.ref C3) = some true)
    (u34 : PySem.W.kitOne K (.ref C3) (.ref C4) = some false)
    (p40 : PySem.W.kitOne K (.ref C4) (.type "LookupError") = some false)
    (p41 : PySem.W.kitOne K (.ref C4) (.type "ValueError") = some true)
    (p42 : PySem.W.kitOne K (.ref C4) (.type "KeyError") = some false)
    (p43 : PySem.W.kitOne K (.ref C4) (.type "IndexError") = some false)
    (u40 : PySem.W.kitOne K (.ref C4) (.ref C0) = some false)
    (u41 : PySem.W.kitOne K (.ref C4) (.ref C1) = some false)
    (u42 : PySem.W.kitOne K (.ref C4) (.ref C2) = some false)
    (u43 : PySem.W.kitOne K (.ref C4) (.ref C3) = some false)
    (u44 : PySem.W.kitOne K (.ref C4) (.ref C4) = some true)
    (a0 : PySem.W.nsIn K mainGlobals "_law_same" = some (some (.ref f0)))
    (l0 : K.lookup f0 = some ⟨oc0, od0, .func (PySem.W.fnOf "_law_same" "_law_same" (defArgs s__law_same) (defBody s__law_same) (defScope s__law_same) .none kV0 dc0 pm0 an0 cd0 ct0), sl0⟩)
    (c0 : PySem.W.codeIn K cd0 "_law_same" = true)
    (k0 : PySem.W.keepIn K (.ref f0) = true)
    (a1 : PySem.W.nsIn K mainGlobals "_law_caught" = some (some (.ref f1)))
    (l1 : K.lookup f1 = some ⟨oc1, od1, .func (PySem.W.fnOf "_law_caught" "_law_caught" (defArgs s__law_caught) (defBody s__law_caught) (defScope s__law_caught) .none kV1 dc1 pm1 an1 cd1 ct1), sl1⟩)
    (c1 : PySem.W.codeIn K cd1 "_law_caught" = true)
    (k1 : PySem.W.keepIn K (.ref f1) = true)
    (a2 : PySem.W.nsIn K mainGlobals "_law_plain" = some (some (.ref f2)))
    (l2 : K.lookup f2 = some ⟨oc2, od2, .func (PySem.W.fnOf "_law_plain" "_law_plain" (defArgs s__law_plain) (defBody s__law_plain) (defScope s__law_plain) .none kV2 dc2 pm2 an2 cd2 ct2), sl2⟩)
    (c2 : PySem.W.codeIn K cd2 "_law_plain" = true)
    (k2 : PySem.W.keepIn K (.ref f2) = true)
    (a3 : PySem.W.nsIn K mainGlobals "_law_kinds" = some (some (.ref f3)))
    (l3 : K.lookup f3 = some ⟨oc3, od3, .func (PySem.W.fnOf "_law_kinds" "_law_kinds" (defArgs s__law_kinds) (defBody s__law_kinds) (defScope s__law_kinds) .none kV3 dc3 pm3 an3 cd3 ct3), sl3⟩)
    (c3 : PySem.W.codeIn K cd3 "_law_kinds" = true)
    (k3 : PySem.W.keepIn K (.ref f3) = true)
    (a4 : PySem.W.nsIn K mainGlobals "_law_by_hand_right" = some (some (.ref f4)))
    (l4 : K.lookup f4 = some ⟨oc4, od4, .func (PySem.W.fnOf "_law_by_hand_right" "_law_by_hand_right" (defArgs s__law_by_hand_right) (defBody s__law_by_hand_right) (defScope s__law_by_hand_right) .none kV4 dc4 pm4 an4 cd4 ct4), sl4⟩)
    (c4 : PySem.W.codeIn K cd4 "_law_by_hand_right" = true)
    (k4 : PySem.W.keepIn K (.ref f4) = true)
    (a5 : PySem.W.nsIn K mainGlobals "law" = some (some (.ref f5)))
    (l5 : K.lookup f5 = some ⟨oc5, od5, .func (PySem.W.fnOf "law" "law" (defArgs s_law) (defBody s_law) (defScope s_law) .none kV5 dc5 pm5 an5 cd5 ct5), sl5⟩)
    (c5 : PySem.W.codeIn K cd5 "law" = true)
    (k5 : PySem.W.keepIn K (.ref f5) = true)
    (z_isinstance : PySem.W.nsIn K mainGlobals "isinstance" = some none)
    (z_len : PySem.W.nsIn K mainGlobals "len" = some none)
    (z_tuple : PySem.W.nsIn K mainGlobals "tuple" = some none)
    (z_list : PySem.W.nsIn K mainGlobals "list" = some none)
    (z_int : PySem.W.nsIn K mainGlobals "int" = some none)
    (z_bool : PySem.W.nsIn K mainGlobals "bool" = some none)
    (z_str : PySem.W.nsIn K mainGlobals "str" = some none)
    (z_all : PySem.W.nsIn K mainGlobals "all" = some none)
    (z_range : PySem.W.nsIn K mainGlobals "range" = some none)
    (z_enumerate : PySem.W.nsIn K mainGlobals "enumerate" = some none)
    (z_zip : PySem.W.nsIn K mainGlobals "zip" = some none)
    (z_max : PySem.W.nsIn K mainGlobals "max" = some none)
    (z_abs : PySem.W.nsIn K mainGlobals "abs" = some none) :
    ∃ fd : FuncData, (∀ (s : Shared) (v : Value), BindsTo s fd ⟨[v], []⟩ [("script", v)]) ∧ ∀ base : Heap, K.In base → base.Ns mainGlobals mg → FnOk l.prog w K mg base CX0 8 fa fd ["script"] (spLaw K) := by
  have e := hfa.symm.trans (PySem.W.mg_of X G a5)
  cases e
  have T : Blt mg := ⟨PySem.W.mg_none_of X G z_isinstance, PySem.W.mg_none_of X G z_len, PySem.W.mg_none_of X G z_tuple, PySem.W.mg_none_of X G z_list, PySem.W.mg_none_of X G z_int, PySem.W.mg_none_of X G z_bool, PySem.W.mg_none_of X G z_str, PySem.W.mg_none_of X G z_all, PySem.W.mg_none_of X G z_range, PySem.W.mg_none_of X G z_enumerate, PySem.W.mg_none_of X G z_zip, PySem.W.mg_none_of X G z_max, PySem.W.mg_none_of X G z_abs⟩
  have Z : BltE mg := ⟨PySem.W.mg_none_of X G zL, PySem.W.mg_none_of X G zV, PySem.W.mg_none_of X G zK, PySem.W.mg_none_of X G zI⟩
  have F0 := fun_mk (st := s__law_same) l0 c0 k0
  have b0 := F0.binds (ps := ["got", "goal"]) fun _ _ _ _ _ _ us hl => match us, hl with | [_, _], _ => rfl
  have g0 := PySem.W.mg_of X G a0
  have F1 := fun_mk (st := s__law_caught) l1 c1 k1
  have b1 := F1.binds (ps := ["way_so", "worth"]) fun _ _ _ _ _ _ us hl => match us, hl with | [_, _], _ => rfl
  have g1 := PySem.W.mg_of X G a1
  have F2 := fun_mk (st := s__law_plain) l2 c2 k2
  have b2 := F2.binds (ps := ["error"]) fun _ _ _ _ _ _ us hl => match us, hl with | [_], _ => rfl
  have g2 := PySem.W.mg_of X G a2
  have F3 := fun_mk (st := s__law_kinds) l3 c3 k3
  have b3 := F3.binds (ps := ["error"]) fun _ _ _ _ _ _ us hl => match us, hl with | [_], _ => rfl
  have g3 := PySem.W.mg_of X G a3
  have F4 := fun_mk (st := s__law_by_hand_right) l4 c4 k4
  have b4 := F4.binds (ps := []) fun _ _ _ _ _ _ us hl => match us, hl with | [], _ => rfl
  have g4 := PySem.W.mg_of X G a4
  have F5 := fun_mk (st := s_law) l5 c5 k5
  have b5 := F5.binds (ps := ["script"]) fun _ _ _ _ _ _ us hl => match us, hl with | [_], _ => rfl
  have g5 := PySem.W.mg_of X G a5
  have FI0 := fun_mk (st := s_initP) lI0 cI0 kI0
  have bI0 := FI0.binds (ps := ["self", "place"]) fun _ _ _ _ _ _ us hl => match us, hl with | [_, _], _ => rfl
  have kb0 := Fun.kb1 (ps := ["self", "place"]) (ks := ["place"]) FI0 fun _ _ _ _ _ _ us ws h1 h2 => match us, ws, h1, h2 with | [_], [_], _, _ => rfl
  have FI1 := fun_mk (st := s_initL) lI1 cI1 kI1
  have bI1 := FI1.binds (ps := ["self", "line"]) fun _ _ _ _ _ _ us hl => match us, hl with | [_, _], _ => rfl
  have kb1 := Fun.kb1 (ps := ["self", "line"]) (ks := ["line"]) FI1 fun _ _ _ _ _ _ us ws h1 h2 => match us, ws, h1, h2 with | [_], [_], _, _ => rfl
  have xc0 : ExcC K C0 := ⟨ga0, gg0, eC0, hC0, ha0, hn, ht, hm0⟩
  have xc1 : ExcC K C1 := ⟨ga1, gg1, eC1, hC1, ha1, hn, ht, hm1⟩
  have xc2 : ExcC K C2 := ⟨ga2, gg2, eC2, hC2, ha2, hn, ht, hm2⟩
  have xc3 : ExcC K C3 := ⟨ga3, gg3, eC3, hC3, ha3, hn, ht, hm3⟩
  have xc4 : ExcC K C4 := ⟨ga4, gg4, eC4, hC4, ha4, hn, ht, hm4⟩
  have LX : LxC K C0 := ⟨⟨nm0, qn0, N0, bs0, sn0, sub0, ab0, col0, dd0, v00, v10, v20, v30, v50, xC0⟩, sa0, eC0, tC0, kC0⟩
  have OX : OexC K C1 := ⟨⟨nm1, qn1, N1, bs1, PySem.HandSPX.veTail, sn1, sub1, ab1, col1, dd1, v01, v11, v21, v31, v51, xC1, rfl⟩, sa1, eC1, tC1, kC1⟩
  have e11 : PySem.W.exmOne K (.ref C0) (.ref C0) = some true := PySem.W.exm_ref eC0 hC0 tC0 s00
  have e21 : PySem.W.exmOne K (.ref C1) (.ref C0) = some false := PySem.W.exm_ref eC0 hC0 tC0 s10
  have e22 : PySem.W.exmOne K (.ref C1) (.ref C1) = some true := PySem.W.exm_ref eC1 hC1 tC1 s11
  have P0 : Kits K C0 us_plain (bsP 0) := .cons p00 (.cons p01 (.cons p02 (.cons p03 .nil)))
  have U0 : Kits K C0 [.ref C0, .ref C1, .ref C2, .ref C3, .ref C4] (bsK 0) := .cons u00 (.cons u01 (.cons u02 (.cons u03 (.cons u04 .nil))))
  have P1 : Kits K C1 us_plain (bsP 1) := .cons p10 (.cons p11 (.cons p12 (.cons p13 .nil)))
  have U1 : Kits K C1 [.ref C0, .ref C1, .ref C2, .ref C3, .ref C4] (bsK 1) := .cons u10 (.cons u11 (.cons u12 (.cons u13 (.cons u14 .nil))))
  have P2 : Kits K C2 us_plain (bsP 2) := .cons p20 (.cons p21 (.cons p22 (.cons p23 .nil)))
  have U2 : Kits K C2 [.ref C0, .ref C1, .ref C2, .ref C3, .ref C4] (bsK 2) := .cons u20 (.cons u21 (.cons u22 (.cons u23 (.cons u24 .nil))))
  have P3 : Kits K C3 us_plain (bsP 3) := .cons p30 (.cons p31 (.cons p32 (.cons p33 .nil)))
  have U3 : Kits K C3 [.ref C0, .ref C1, .ref C2, .ref C3, .ref C4] (bsK 3) := .cons u30 (.cons u31 (.cons u32 (.cons u33 (.cons u34 .nil))))
  have P4 : Kits K C4 us_plain (bsP 4) := .cons p40 (.cons p41 (.cons p42 (.cons p43 .nil)))
  have U4 : Kits K C4 [.ref C0, .ref C1, .ref C2, .ref C3, .ref C4] (bsK 4) := .cons u40 (.cons u41 (.cons u42 (.cons u43 (.cons u44 .nil))))
  refine ⟨PySem.W.fnOf "law" "law" (defArgs s_law) (defBody s_law) (defScope s_law) .none kV5 dc5 pm5 an5 cd5 ct5, fun s v => .of_eq rfl, fun base _ _ => ?_⟩
  have NP : EC l.prog w K mg base "NoPlace" "place" C0 fI0 _ leM "LookupError.__new__" := ⟨⟨⟨nm0, qn0, N0, bs0, leM, sn0, sub0, ab0, col0, dd0, v00, v10, v20, v30, v50, xC0, fun _ => rfl⟩, eC0, tC0, kC0⟩, iC0, tI0, ok_initP FI0 Z.le LX nb0 vL, bI0, kb0, PySem.W.mg_of X G aC0, nb0, ⟨ga0, gg0, eC0, hC0⟩, xc0⟩
  have NL : EC l.prog w K mg base "BadLine" "line" C1 fI1 _ PySem.HandSPX.veTail "ValueError.__new__" := ⟨⟨⟨nm1, qn1, N1, bs1, PySem.HandSPX.veTail, sn1, sub1, ab1, col1, dd1, v01, v11, v21, v31, v51, xC1, fun _ => rfl⟩, eC1, tC1, kC1⟩, iC1, tI1, ok_initL FI1 Z.ve OX nb1 vV, bI1, kb1, PySem.W.mg_of X G aC1, nb1, ⟨ga1, gg1, eC1, hC1⟩, xc1⟩
  have C__law_same := (cal_mk g0 k0 b0 (ok__law_same (P := l.prog) (w := w) (base := base) F0 T g0 k0 b0 6))
  have C__law_caught := (cal_mk g1 k1 b1 (ok__law_caught F1 T NP NL e11 e21 e22))
  have C__law_plain := (cal_mk g2 k2 b2 (ok__law_plain (P := l.prog) (w := w) (base := base) F2 T Z))
  have C__law_kinds := (cal_mk g3 k3 b3 (ok__law_kinds (P := l.prog) (w := w) (base := base) F3 T (PySem.W.mg_of X G aC0) (PySem.W.mg_of X G aC1) (PySem.W.mg_of X G aC2) (PySem.W.mg_of X G aC3) (PySem.W.mg_of X G aC4)))
  have C__law_by_hand_right := (cal_mk g4 k4 b4 (ok__law_by_hand_right F4 T NP NL ex2 ex3 ex4 (PySem.W.mg_of X G aC2) (PySem.W.mg_of X G aC3) (PySem.W.mg_of X G aC4) kC2 kC3 kC4 xc2 xc3 xc4 P0 P1 P2 P3 P4 U0 U1 U2 U3 U4 C__law_plain C__law_kinds C__law_same))
  exact ok_law F5 T C__law_by_hand_right C__law_caught C__law_same
end K0
open PySem PySem.W PyProof.Rows
set_option maxRecDepth 100000 in
set_option maxHeartbeats 0 in
theorem PySem.Challenge.cw_placehues_k00_errors_holds : PySem.Challenge.rw_placehues_k00_errors.Holds := by
  w_on; o_law; k_head; (case hw => w_witness2)
  k_fill
  refine L2.walk_of (l := PySem.Challenge.rw_placehues_k00_errors) (n := 63) (k := 8) (x := "script") (CX := fun _ => L2.CX0) (sp := fun w => K0.spLaw _) rfl (by decide) rfl ⟨rfl, by decide, by decide⟩ (fun w h Y => PySem.W.kIn_of Y) ?F (fun _ _ a ns hl _ hS => ⟨a, ns, rfl, hS, hl, fun _ => rfl⟩) (fun _ _ _ _ _ h => h)
  case F =>
    intro w mg fa h KX G hmg
    refine' K0.all_mk KX G hmg ?aC0 ?aC1 ?aC2 ?aC3 ?aC4 ?xC0 ?sa0 ?nb0 ?iC0 ?tI0 ?lI0 ?cI0 ?kI0 ?xC1 ?sa1 ?nb1 ?iC1 ?tI1 ?lI1 ?cI1 ?kI1 ?ex2 ?ex3 ?ex4 ?kC0 ?eC0 ?tC0 ?hC0 ?ga0 ?gg0 ?ha0 ?hm0 ?kC1 ?eC1 ?tC1 ?hC1 ?ga1 ?gg1 ?ha1 ?hm1 ?kC2 ?eC2 ?tC2 ?hC2 ?ga2 ?gg2 ?ha2 ?hm2 ?kC3 ?eC3 ?tC3 ?hC3 ?ga3 ?gg3 ?ha3 ?hm3 ?kC4 ?eC4 ?tC4 ?hC4 ?ga4 ?gg4 ?ha4 ?hm4 ?hn ?ht ?s00 ?s10 ?s11 ?zL ?zV ?zK ?zI ?vL ?vV ?p00 ?p01 ?p02 ?p03 ?u00 ?u01 ?u02 ?u03 ?u04 ?p10 ?p11 ?p12 ?p13 ?u10 ?u11 ?u12 ?u13 ?u14 ?p20 ?p21 ?p22 ?p23 ?u20 ?u21 ?u22 ?u23 ?u24 ?p30 ?p31 ?p32 ?p33 ?u30 ?u31 ?u32 ?u33 ?u34 ?p40 ?p41 ?p42 ?p43 ?u40 ?u41 ?u42 ?u43 ?u44 ?a0 ?l0 ?c0 ?k0 ?a1 ?l1 ?c1 ?k1 ?a2 ?l2 ?c2 ?k2 ?a3 ?l3 ?c3 ?k3 ?a4 ?l4 ?c4 ?k4 ?a5 ?l5 ?c5 ?k5 ?z_isinstance ?z_len ?z_tuple ?z_list ?z_int ?z_bool ?z_str ?z_all ?z_range ?z_enumerate ?z_zip ?z_max ?z_abs
    (case aC0 => k_is)
    (case aC1 => k_is)
    (case aC2 => k_is)
    (case aC3 => k_is)
    (case aC4 => k_is)
    (case xC0 => k_is)
    (case sa0 => k_is)
    (case nb0 => k_is)
    (case iC0 => k_is)
    (case tI0 => k_is)
    (case lI0 => k_is)
    (case cI0 => k_is)
    (case kI0 => k_is)
    (case xC1 => k_is)
    (case sa1 => k_is)
    (case nb1 => k_is)
    (case iC1 => k_is)
    (case tI1 => k_is)
    (case lI1 => k_is)
    (case cI1 => k_is)
    (case kI1 => k_is)
    (case ex2 => k_exc)
    (case ex3 => k_exc)
    (case ex4 => k_exc)
    (case kC0 => k_is)
    (case eC0 => k_is)
    (case tC0 => k_is)
    (case hC0 => k_is)
    (case ga0 => k_is)
    (case gg0 => k_is)
    (case ha0 => k_is)
    (case hm0 => k_is)
    (case kC1 => k_is)
    (case eC1 => k_is)
    (case tC1 => k_is)
    (case hC1 => k_is)
    (case ga1 => k_is)
    (case gg1 => k_is)
    (case ha1 => k_is)
    (case hm1 => k_is)
    (case kC2 => k_is)
    (case eC2 => k_is)
    (case tC2 => k_is)
    (case hC2 => k_is)
    (case ga2 => k_is)
    (case gg2 => k_is)
    (case ha2 => k_is)
    (case hm2 => k_is)
    (case kC3 => k_is)
    (case eC3 => k_is)
    (case tC3 => k_is)
    (case hC3 => k_is)
    (case ga3 => k_is)
    (case gg3 => k_is)
    (case ha3 => k_is)
    (case hm3 => k_is)
    (case kC4 => k_is)
    (case eC4 => k_is)
    (case tC4 => k_is)
    (case hC4 => k_is)
    (case ga4 => k_is)
    (case gg4 => k_is)
    (case ha4 => k_is)
    (case hm4 => k_is)
    (case hn => k_is)
    (case ht => k_is)
    (case s00 => first | rfl | k_is)
    (case s10 => first | rfl | k_is)
    (case s11 => first | rfl | k_is)
    (case zL => k_is)
    (case zV => k_is)
    (case zK => k_is)
    (case zI => k_is)
    (case vL => k_is)
    (case vV => k_is)
    (case p00 => first | rfl | k_is)
    (case p01 => first | rfl | k_is)
    (case p02 => first | rfl | k_is)
    (case p03 => first | rfl | k_is)
    (case u00 => first | rfl | k_is)
    (case u01 => first | rfl | k_is)
    (case u02 => first | rfl | k_is)
    (case u03 => first | rfl | k_is)
    (case u04 => first | rfl | k_is)
    (case p10 => first | rfl | k_is)
    (case p11 => first | rfl | k_is)
    (case p12 => first | rfl | k_is)
    (case p13 => first | rfl | k_is)
    (case u10 => first | rfl | k_is)
    (case u11 => first | rfl | k_is)
    (case u12 => first | rfl | k_is)
    (case u13 => first | rfl | k_is)
    (case u14 => first | rfl | k_is)
    (case p20 => first | rfl | k_is)
    (case p21 => first | rfl | k_is)
    (case p22 => first | rfl | k_is)
    (case p23 => first | rfl | k_is)
    (case u20 => first | rfl | k_is)
    (case u21 => first | rfl | k_is)
    (case u22 => first | rfl | k_is)
    (case u23 => first | rfl | k_is)
    (case u24 => first | rfl | k_is)
    (case p30 => first | rfl | k_is)
    (case p31 => first | rfl | k_is)
    (case p32 => first | rfl | k_is)
    (case p33 => first | rfl | k_is)
    (case u30 => first | rfl | k_is)
    (case u31 => first | rfl | k_is)
    (case u32 => first | rfl | k_is)
    (case u33 => first | rfl | k_is)
    (case u34 => first | rfl | k_is)
    (case p40 => first | rfl | k_is)
    (case p41 => first | rfl | k_is)
    (case p42 => first | rfl | k_is)
    (case p43 => first | rfl | k_is)
    (case u40 => first | rfl | k_is)
    (case u41 => first | rfl | k_is)
    (case u42 => first | rfl | k_is)
    (case u43 => first | rfl | k_is)
    (case u44 => first | rfl | k_is)
    (case a0 => k_is)
    (case l0 => k_is)
    (case c0 => k_is)
    (case k0 => k_is)
    (case a1 => k_is)
    (case l1 => k_is)
    (case c1 => k_is)
    (case k1 => k_is)
    (case a2 => k_is)
    (case l2 => k_is)
    (case c2 => k_is)
    (case k2 => k_is)
    (case a3 => k_is)
    (case l3 => k_is)
    (case c3 => k_is)
    (case k3 => k_is)
    (case a4 => k_is)
    (case l4 => k_is)
    (case c4 => k_is)
    (case k4 => k_is)
    (case a5 => k_is)
    (case l5 => k_is)
    (case c5 => k_is)
    (case k5 => k_is)
    (case z_isinstance => k_is)
    (case z_len => k_is)
    (case z_tuple => k_is)
    (case z_list => k_is)
    (case z_int => k_is)
    (case z_bool => k_is)
    (case z_str => k_is)
    (case z_all => k_is)
    (case z_range => k_is)
    (case z_enumerate => k_is)
    (case z_zip => k_is)
    (case z_max => k_is)
    (case z_abs => k_is)
