import PyProof.Rows.All
import Wide.All
import OpenK.AllK
import Wide.FinOn
import HandS.ForMost
import HandS.Wide
import HandS.WideMore
import HandS.IsInst
import HandS.Zip
import HandS.TupAny
import HandS.Conv
import HandS.Exc
import KE.KExcInit
import HandS.ExcInit
import HandS.ExcField
import HandS.TryOnly
import HandS.ExcOwn
import HandS.WordsExc
import HandS.Flow
import HandS.TupMul
import HandS.Small
import KE.KDictZip
import KE.GoesMore
import KE.GoesEnum
import PyProof.TupleOfGen
import HandS.ExcValue
import PySem.Challenge.RW_placehues_k02_whole_texts_change_by_chan
set_option Elab.async false
set_option linter.all false
set_option maxRecDepth 100000
set_option maxHeartbeats 4000000
namespace Ph
open PySem PySem.Spec PyProof.Rows L2

/-- may be put aside: nothing else leans on it -/
def Aside : HO → Prop
  | .lst _ => True
  | .dK _ => True
  | _ => False
def hide (H : Hp) (o : List Addr) : Hp := fun a => if a ∈ o then none else H a
def back (H : Hp) (o : List Addr) (G : Hp) : Hp := fun a => if a ∈ o then H a else G a
theorem hide_in {H : Hp} {o : List Addr} {a : Addr} (h : a ∈ o) : hide H o a = none := if_pos h
theorem hide_out {H : Hp} {o : List Addr} {a : Addr} (h : a ∉ o) : hide H o a = H a := if_neg h
theorem back_in {H G : Hp} {o : List Addr} {a : Addr} (h : a ∈ o) : back H o G a = H a := if_pos h
theorem back_out {H G : Hp} {o : List Addr} {a : Addr} (h : a ∉ o) : back H o G a = G a := if_neg h
def Owned (H : Hp) (o : List Addr) : Prop := ∀ a ∈ o, ∃ x, H a = some x ∧ Aside x
theorem hide_some {H : Hp} {o : List Addr} {a : Addr} {x : HO} (h : hide H o a = some x) : a ∉ o ∧ H a = some x := by
  by_cases c : a ∈ o
  · rw [hide_in c] at h
    cases h
  · rw [hide_out c] at h
    exact ⟨c, h⟩
theorem owned_ne {H : Hp} {o : List Addr} (W : Owned H o) {a : Addr} {x : HO} (h : H a = some x) (n : ¬ Aside x) : a ∉ o := fun c => by
  obtain ⟨y, e, q⟩ := W a c
  rw [h] at e
  cases e
  exact n q
/-- a promise, with owned objects put aside meanwhile -/
def spHide (sp : Sp) : Sp := fun vs H Q E => ∃ o, Owned H o ∧ sp vs (hide H o) (fun v G => (∀ a ∈ o, G a = none) → Q v (back H o G)) E
section
variable {P : Program} {w : World} {K : PySem.W.Frag} {mg : Str → Option Value} {base : Heap}
theorem fn_hide {k : Nat} {f : Addr} {fd : FuncData} {ps : List Str} {sp : Sp} (F : FnOk P w K mg base CX0 k f fd ps sp) : FnOk P w K mg base CX0 k f fd ps (spHide sp) := by
  refine ⟨fun vs H Q E ⟨o, _, h⟩ => F.len _ _ _ _ h, fun A outer s H args us vs Q E hr e0 hb hv h => ?_⟩
  obtain ⟨o, W, h⟩ := h
  have nf : ∀ b ∈ o, b ∉ frs outer := fun b hb hf => by
    obtain ⟨x, e, _⟩ := W b hb
    rw [e0.frf b hf] at e
    cases e
  have toNone : ∀ {b : Addr}, H b = none → hide H o b = none := fun {b} n => by
    by_cases c : b ∈ o
    · exact hide_in c
    · rw [hide_out c]
      exact n
  have noTup : ∀ {b : Addr} {xs : List V}, H b = some (.tup xs) → b ∉ o := fun {b xs} e => owned_ne W e fun z => z
  have noOwn : ∀ {b c : Addr}, H b = some (.own c) → b ∉ o := fun {b c} e => owned_ne W e fun z => z
  have hok : HOk P w (hide H o) s.heap := fun a x e => by
    obtain ⟨c, e⟩ := hide_some e
    refine (e0.hok a x e).stay (fun b u _ q => q) (fun b q => ?_) fun b xs q => ?_
    · rw [hide_out (noOwn q)]
      exact q
    · rw [hide_out (noTup q)]
      exact q
  have e1 : Env0 P w K mg base A outer s (hide H o) :=
    ⟨e0.frames, e0.mod, fun b x e => ⟨(e0.bs b x e).1, toNone (e0.bs b x e).2⟩, e0.bsz, e0.funs, fun b hb => toNone (e0.frf b hb), hok, e0.bare⟩
  refine codeAny_mono (F.run A outer s (hide H o) args us vs _ E hr e1 hb hv h) fun r s' q => ?_
  cases r with
  | error e => exact q
  | ok fl =>
    cases fl with
    | next => exact q
    | brk => exact q
    | cont => exact q
    | ret u =>
      obtain ⟨v, G, os, bare, un, hk, rv, q⟩ := q
      have gone : ∀ a ∈ o, G a = none := fun a ha => by
        obtain ⟨x, e, _⟩ := W a ha
        obtain ⟨ob, hob⟩ : ∃ ob, s.heap.get? a = some ob := by
          have lt := e0.hok.lt e
          cases z : s.heap.get? a with
          | some ob => exact ⟨ob, rfl⟩
          | none =>
            have := e0.hok a x e
            have z2 : ∃ ob, s.heap.get? a = some ob := by
              obtain ⟨y, ey, ay⟩ := W a ha
              rw [e] at ey
              cases ey
              cases x with
              | lst xs => obtain ⟨_, _, _, _, e⟩ := this; exact ⟨_, e⟩
              | dK kvs => obtain ⟨_, _, _, _, o, _, _, e, _⟩ := this; exact ⟨_, e⟩
              | _ => exact ay.elim
            rw [z] at z2
            obtain ⟨ob, z2⟩ := z2
            cases z2
        exact un.free a ob hob (hide_in ha) (by simp)
      have same : ∀ a ∈ o, ∀ ob, s.heap.get? a = some ob → s'.heap.get? a = some ob := fun a ha ob e => un.keep a ob e (hide_in ha) (nf a ha) (by simp)
      refine ⟨v, back H o G, os, bare, ⟨fun b ob e n hb hx => un.keep b ob e (toNone n) hb hx, fun b ob e n hb hx => un.slot b ob e (toNone n) hb hx, fun b ob e n hx => ?_, un.there, fun b xs e => ?_, fun b ob x e => ?_, fun b ts e => ?_⟩, fun a x e => ?_, rv, q gone⟩
      · have c : b ∉ o := fun c => by
          obtain ⟨x, e', _⟩ := W b c
          rw [n] at e'
          cases e'
        rw [back_out c]
        exact un.free b ob e (toNone n) hx
      · rw [back_out (noTup e)]
        exact un.tups b xs (by rw [hide_out (noTup e)]; exact e)
      · have c : b ∉ o := owned_ne W e fun z => z
        rw [back_out c]
        exact un.frzs b ob x (by rw [hide_out c]; exact e)
      · have c : b ∉ o := owned_ne W e fun z => z
        rw [back_out c]
        exact un.tbls b ts (by rw [hide_out c]; exact e)
      · by_cases c : a ∈ o
        · rw [back_in c] at e
          obtain ⟨y, ey, ay⟩ := W a c
          rw [e] at ey
          cases ey
          have z := e0.hok a x e
          cases x with
          | lst xs =>
            obtain ⟨z1, its, n, rr, e2⟩ := z
            exact ⟨z1, its, n, rr, same a c _ e2⟩
          | dK kvs =>
            obtain ⟨z1, z2, vs', kv, ob, es, ep, e2, zz⟩ := z
            exact ⟨z1, z2, vs', kv, ob, es, ep, same a c _ e2, zz⟩
          | _ => exact ay.elim
        · rw [back_out c] at e
          refine (hk a x e).stay (fun b u _ q => q) (fun b q => ?_) fun b xs q => ?_
          · have c2 : b ∉ o := fun c2 => by
              rw [gone b c2] at q
              cases q
            rw [back_out c2]
            exact q
          · have c2 : b ∉ o := fun c2 => by
              rw [gone b c2] at q
              cases q
            rw [back_out c2]
            exact q
end
end Ph

namespace Ph
open PySem PySem.Spec PyProof.Rows L2

/-! ### data in a heap -/
abbrev Ex (H H' : Hp) : Prop := Same H H'
mutual
inductive DD (K : PySem.W.Frag) (H : Hp) : V → PyData → Prop
  | non : DD K H .non .none
  | bl (b : Bool) : DD K H (.bl b) (.bool b)
  | int (i : Int) : DD K H (.int i) (.int i)
  | str (x : Str) : DD K H (.str x) (.str x)
  | lst {a : Addr} {xs : List V} {ds : List PyData} : H a = some (.lst xs) → DDs K H xs ds → DD K H (.ref a) (.list ds)
  | tup {a : Addr} {xs : List V} {ds : List PyData} : SqT K H a xs → DDs K H xs ds → DD K H (.ref a) (.tuple ds)
  | dct {a : Addr} {kvs : List (Key × V)} {ms : List (PyData × PyData)} : H a = some (.dK kvs) → DKs K H kvs ms → DD K H (.ref a) (.dict ms)
inductive DDs (K : PySem.W.Frag) (H : Hp) : List V → List PyData → Prop
  | nil : DDs K H [] []
  | cons {v : V} {vs : List V} {d : PyData} {ds : List PyData} : DD K H v d → DDs K H vs ds → DDs K H (v :: vs) (d :: ds)
inductive DKs (K : PySem.W.Frag) (H : Hp) : List (Key × V) → List (PyData × PyData) → Prop
  | nil : DKs K H [] []
  | cons {k : Int} {v : V} {kvs : List (Key × V)} {d : PyData} {ms : List (PyData × PyData)} : DD K H v d → DKs K H kvs ms → DKs K H ((.inl k, v) :: kvs) ((.int k, d) :: ms)
end
theorem ex_sqT {K : PySem.W.Frag} {H H' : Hp} {a : Addr} {xs : List V} (e : Ex H H') (h : SqT K H a xs) : SqT K H' a xs := by
  rcases h with (h | ⟨o, h⟩) | h
  · exact .inl (.inl (e _ _ h))
  · exact .inl (.inr ⟨o, e _ _ h⟩)
  · exact .inr h
section
variable {K : PySem.W.Frag} {H H' : Hp}
mutual
theorem DD.mono (e : Ex H H') : ∀ {v : V} {d : PyData}, DD K H v d → DD K H' v d
  | _, _, .non => .non
  | _, _, .bl b => .bl b
  | _, _, .int i => .int i
  | _, _, .str x => .str x
  | _, _, .lst h t => .lst (e _ _ h) (DDs.mono e t)
  | _, _, .tup h t => .tup (ex_sqT e h) (DDs.mono e t)
  | _, _, .dct h t => .dct (e _ _ h) (DKs.mono e t)
theorem DDs.mono (e : Ex H H') : ∀ {vs : List V} {ds : List PyData}, DDs K H vs ds → DDs K H' vs ds
  | _, _, .nil => .nil
  | _, _, .cons h t => .cons (DD.mono e h) (DDs.mono e t)
theorem DKs.mono (e : Ex H H') : ∀ {kvs : List (Key × V)} {ms : List (PyData × PyData)}, DKs K H kvs ms → DKs K H' kvs ms
  | _, _, .nil => .nil
  | _, _, .cons h t => .cons (DD.mono e h) (DKs.mono e t)
end
mutual
theorem DD.dp : ∀ {v : V} {d : PyData}, d.canLay0 = true → DD K H v d → Dp K H v d
  | _, _, _, .non => .non
  | _, _, _, .bl b => .bl b
  | _, _, _, .int i => .int i
  | _, _, _, .str x => .str x
  | _, _, c, .lst h t => .lst (SqL.of h) (DDs.dp (by simpa only [PyData.canLay0] using c) t)
  | _, _, c, .tup h t => .tup h (DDs.dp (by simpa only [PyData.canLay0] using c) t)
  | _, _, c, .dct h t => by simp [PyData.canLay0] at c
theorem DDs.dp : ∀ {vs : List V} {ds : List PyData}, PyData.canLayAll0 ds = true → DDs K H vs ds → DpAll K H vs ds
  | _, _, _, .nil => .nil
  | _, _, c, .cons h t => by
    simp only [PyData.canLayAll0, Bool.and_eq_true] at c
    exact .cons (DD.dp c.1 h) (DDs.dp c.2 t)
end
theorem dd_dct {v : V} {ms : List (PyData × PyData)} (h : DD K H v (.dict ms)) : ∃ a kvs, v = .ref a ∧ H a = some (.dK kvs) ∧ DKs K H kvs ms := by
  cases h with
  | dct h t => exact ⟨_, _, rfl, h, t⟩
theorem DDs.length : ∀ {vs : List V} {ds : List PyData}, DDs K H vs ds → vs.length = ds.length
  | _, _, .nil => rfl
  | _, _, .cons _ t => by rw [List.length_cons, List.length_cons, DDs.length t]
theorem DDs.get : ∀ {vs : List V} {ds : List PyData} {i : Nat} {v : V} {d : PyData}, DDs K H vs ds → vs[i]? = some v → ds[i]? = some d → DD K H v d
  | _, _, i, v, d, .nil, h, _ => by simp at h
  | _, _, 0, v, d, .cons h t, e, e2 => by
    have e := Option.some.inj e
    have e2 := Option.some.inj e2
    subst e e2
    exact h
  | _, _, i + 1, v, d, .cons h t, e, e2 => DDs.get t (i := i) (by simpa using e) (by simpa using e2)
theorem DDs.at : ∀ {vs : List V} {ds : List PyData} {i : Nat} {d : PyData}, DDs K H vs ds → ds[i]? = some d → ∃ v, vs[i]? = some v ∧ DD K H v d := fun {vs ds i d} h e => by
  have hl := h.length
  have hi : i < ds.length := (List.getElem?_eq_some_iff.mp e).1
  have e3 : vs[i]? = some (vs[i]'(by omega)) := List.getElem?_eq_getElem (by omega)
  exact ⟨_, e3, h.get e3 e⟩
theorem DDs.at' : ∀ {vs : List V} {ds : List PyData} {i : Nat} {v : V}, DDs K H vs ds → vs[i]? = some v → ∃ d, ds[i]? = some d ∧ DD K H v d := fun {vs ds i v} h e => by
  have hl := h.length
  have hi : i < vs.length := (List.getElem?_eq_some_iff.mp e).1
  have e3 : ds[i]? = some (ds[i]'(by omega)) := List.getElem?_eq_getElem (by omega)
  exact ⟨_, e3, h.get e e3⟩
theorem DDs.append : ∀ {vs us : List V} {ds es : List PyData}, DDs K H vs ds → DDs K H us es → DDs K H (vs ++ us) (ds ++ es)
  | _, _, _, _, .nil, t => t
  | _, _, _, _, .cons h r, t => .cons h (DDs.append r t)
theorem DDs.take : ∀ {vs : List V} {ds : List PyData} (n : Nat), DDs K H vs ds → DDs K H (vs.take n) (ds.take n)
  | _, _, 0, _ => .nil
  | _, _, n + 1, .nil => .nil
  | _, _, n + 1, .cons h t => .cons h (DDs.take n t)
theorem DDs.drop : ∀ {vs : List V} {ds : List PyData} (n : Nat), DDs K H vs ds → DDs K H (vs.drop n) (ds.drop n)
  | _, _, 0, t => t
  | _, _, n + 1, .nil => .nil
  | _, _, n + 1, .cons h t => DDs.drop n t
theorem DDs.set {v : V} {d : PyData} (h : DD K H v d) : ∀ {vs : List V} {ds : List PyData} (i : Nat), DDs K H vs ds → DDs K H (vs.set i v) (ds.set i d)
  | _, _, _, .nil => .nil
  | _, _, 0, .cons _ t => .cons h t
  | _, _, i + 1, .cons q t => .cons q (DDs.set h i t)
theorem dd_tup {v : V} {ds : List PyData} (h : DD K H v (.tuple ds)) : ∃ a xs, v = .ref a ∧ SqT K H a xs ∧ DDs K H xs ds := by
  cases h with
  | tup h t => exact ⟨_, _, rfl, h, t⟩
theorem dd_lst {v : V} {ds : List PyData} (h : DD K H v (.list ds)) : ∃ a xs, v = .ref a ∧ H a = some (.lst xs) ∧ DDs K H xs ds := by
  cases h with
  | lst h t => exact ⟨_, _, rfl, h, t⟩
theorem dd_int {v : V} {i : Int} (h : DD K H v (.int i)) : v = .int i := by cases h; rfl
theorem dd_bool {v : V} {b : Bool} (h : DD K H v (.bool b)) : v = .bl b := by cases h; rfl
theorem dd_str {v : V} {x : Str} (h : DD K H v (.str x)) : v = .str x := by cases h; rfl
theorem dd_none {v : V} (h : DD K H v .none) : v = .non := by cases h; rfl
theorem dds_ints {ns : List Int} : ∀ {vs : List V}, DDs K H vs (ns.map PyData.int) → vs = ns.map V.int := by
  induction ns with
  | nil => intro vs h; cases h; rfl
  | cons n ns ih =>
    intro vs h
    cases h with
    | cons h t =>
      rw [dd_int h, ih t]
      rfl
theorem dds_of_ints : ∀ (ns : List Int), DDs K H (ns.map V.int) (ns.map PyData.int)
  | [] => .nil
  | n :: ns => .cons (.int n) (dds_of_ints ns)
theorem dds_bools {ns : List Bool} : ∀ {vs : List V}, DDs K H vs (ns.map PyData.bool) → vs = ns.map V.bl := by
  induction ns with
  | nil => intro vs h; cases h; rfl
  | cons n ns ih =>
    intro vs h
    cases h with
    | cons h t =>
      rw [dd_bool h, ih t]
      rfl
end

/-! ### the slots, as data -/
inductive En (K : PySem.W.Frag) (G : Hp) : List (Option V) → List (Option PyData) → Prop
  | nil : En K G [] []
  | no {x : Option V} {σ : List (Option V)} {ds : List (Option PyData)} : En K G σ ds → En K G (x :: σ) (none :: ds)
  | yes {v : V} {d : PyData} {σ : List (Option V)} {ds : List (Option PyData)} : DD K G v d → En K G σ ds → En K G (some v :: σ) (some d :: ds)
section
variable {K : PySem.W.Frag} {G G' : Hp}
theorem En.mono (e : Ex G G') : ∀ {σ : List (Option V)} {ds : List (Option PyData)}, En K G σ ds → En K G' σ ds
  | _, _, .nil => .nil
  | _, _, .no t => .no (En.mono e t)
  | _, _, .yes h t => .yes (h.mono e) (En.mono e t)
theorem En.get : ∀ {σ : List (Option V)} {ds : List (Option PyData)} {i : Nat} {d : PyData}, En K G σ ds → ds[i]? = some (some d) → ∃ v, σ[i]? = some (some v) ∧ DD K G v d
  | _, _, i, d, .nil, h => by simp at h
  | _, _, 0, d, .no t, h => by simp at h
  | _, _, 0, d, .yes (v := v) q t, h => by
    have h := Option.some.inj (Option.some.inj h)
    subst h
    exact ⟨v, rfl, q⟩
  | _, _, i + 1, d, .no t, h => by
    obtain ⟨v, e, q⟩ := En.get t (i := i) (d := d) (by simpa using h)
    exact ⟨v, by simpa using e, q⟩
  | _, _, i + 1, d, .yes _ t, h => by
    obtain ⟨v, e, q⟩ := En.get t (i := i) (d := d) (by simpa using h)
    exact ⟨v, by simpa using e, q⟩
theorem En.set {v : V} {d : PyData} (h : DD K G v d) : ∀ {σ : List (Option V)} {ds : List (Option PyData)} (i : Nat), En K G σ ds → En K G (σ.set i (some v)) (ds.set i (some d))
  | _, _, _, .nil => .nil
  | _, _, 0, .no t => .yes h t
  | _, _, 0, .yes _ t => .yes h t
  | _, _, i + 1, .no t => .no (En.set h i t)
  | _, _, i + 1, .yes q t => .yes q (En.set h i t)
theorem En.unset {x : Option V} : ∀ {σ : List (Option V)} {ds : List (Option PyData)} (i : Nat), En K G σ ds → En K G (σ.set i x) (ds.set i none)
  | _, _, _, .nil => .nil
  | _, _, 0, .no t => .no t
  | _, _, 0, .yes _ t => .no t
  | _, _, i + 1, .no t => .no (En.unset i t)
  | _, _, i + 1, .yes q t => .yes q (En.unset i t)
def wipeD (ds : List (Option PyData)) : List Nat → List (Option PyData)
  | [] => ds
  | v :: vs => (wipeD ds vs).set v none
theorem En.wipe {σ : List (Option V)} {ds : List (Option PyData)} (h : En K G σ ds) : ∀ vs : List Nat, En K G (L2.wipe σ vs) (wipeD ds vs)
  | [] => h
  | v :: vs => (En.wipe h vs).unset v
end

/-! ### what an expression, a test, arguments are worth, by the slots' data. o: objects put aside -/
structure Go (H H' : Hp) (o : List Addr) : Prop where
  ex : Ex H H'
  ow : Owned H' o
def EvD (K : PySem.W.Frag) (o : List Addr) (te : TE) (ds : List (Option PyData)) (d : PyData) : Prop :=
  ∀ σ H, En K (hide H o) σ ds → Owned H o → ∀ Q : VK, (∀ v H2, Ex H H2 → Owned H2 o → DD K (hide H2 o) v d → Q v H2) → te σ H Q
def EvA (K : PySem.W.Frag) (o : List Addr) (ta : TA) (ds : List (Option PyData)) (es : List PyData) : Prop :=
  ∀ σ H, En K (hide H o) σ ds → Owned H o → ∀ Q : List V → Hp → Prop, (∀ vs H2, Ex H H2 → Owned H2 o → DDs K (hide H2 o) vs es → Q vs H2) → ta σ H Q
def EvB (K : PySem.W.Frag) (o : List Addr) (tt : TT) (ds : List (Option PyData)) (b : Bool) : Prop :=
  ∀ σ H, En K (hide H o) σ ds → Owned H o → ∀ Q : Bool → Hp → Prop, (∀ H2, Ex H H2 → Owned H2 o → Q b H2) → tt σ H Q
theorem ex_hide {H H' : Hp} {o : List Addr} (e : Ex H H') : Ex (hide H o) (hide H' o) := fun a x h => by
  obtain ⟨c, h⟩ := hide_some h
  rw [hide_out c]
  exact e _ _ h
theorem ex_new {H : Hp} {p : Addr} {x : HO} (h : H p = none) : Ex H (upd H p x) := fun a u e => by
  rw [upd_ne (ne_of_none e h)]
  exact e
theorem ow_mono {H H' : Hp} {o : List Addr} (W : Owned H o) (e : Ex H H') : Owned H' o := fun a ha => by
  obtain ⟨x, h, q⟩ := W a ha
  exact ⟨x, e _ _ h, q⟩
theorem ow_new {H : Hp} {o : List Addr} {p : Addr} (W : Owned H o) (h : H p = none) : p ∉ o := fun c => by
  obtain ⟨x, e, _⟩ := W p c
  rw [h] at e
  cases e
theorem hide_new {H : Hp} {o : List Addr} {p : Addr} {x : HO} (W : Owned H o) (h : H p = none) : hide (upd H p x) o p = some x := by
  rw [hide_out (ow_new W h), upd_same]
section
variable {K : PySem.W.Frag} {o : List Addr} {ds : List (Option PyData)} {ta tb te : TE} {d e : PyData}
theorem ev_var {i : Nat} (h : ds[i]? = some (some d)) : EvD K o (tVar i) ds d := fun σ H E W Q q => by
  obtain ⟨v, e, x⟩ := E.get h
  exact ⟨v, e, q v H (Same.refl H) W x⟩
theorem ev_int {i : Int} : EvD K o (tC (.int i)) ds (.int i) := fun σ H E W Q q => q _ H (Same.refl H) W (.int i)
theorem ev_bl {b : Bool} : EvD K o (tC (.bl b)) ds (.bool b) := fun σ H E W Q q => q _ H (Same.refl H) W (.bl b)
theorem ev_str {x : Str} : EvD K o (tC (.str x)) ds (.str x) := fun σ H E W Q q => q _ H (Same.refl H) W (.str x)
theorem ev_non : EvD K o (tC .non) ds .none := fun σ H E W Q q => q _ H (Same.refl H) W .non
theorem ea_nil : EvA K o tNil ds [] := fun σ H E W Q q => q [] H (Same.refl H) W .nil
theorem ea_cons {t : TA} {es : List PyData} (h : EvD K o ta ds d) (r : EvA K o t ds es) : EvA K o (tCons ta t) ds (d :: es) := fun σ H E W Q q =>
  h σ H E W _ fun v H1 e1 W1 x => r σ H1 (E.mono (ex_hide e1)) W1 _ fun vs H2 e2 W2 xs => q _ H2 (e1.trans e2) W2 (.cons (x.mono (ex_hide e2)) xs)
theorem ev_tup {t : TA} {es : List PyData} (h : EvA K o t ds es) (hl : es.length ≤ sizeLine) : EvD K o (tTup t) ds (.tuple es) := fun σ H E W Q q =>
  h σ H E W _ fun vs H1 e1 W1 xs => ⟨by rw [xs.length]; exact hl, fun p hp => q _ _ (e1.trans (ex_new hp)) (ow_mono W1 (ex_new hp)) (.tup (SqT.of (hide_new W1 hp)) (xs.mono (ex_hide (ex_new hp))))⟩
theorem ev_lst {t : TA} {es : List PyData} (h : EvA K o t ds es) (hl : es.length ≤ sizeLine) : EvD K o (tLst t) ds (.list es) := fun σ H E W Q q =>
  h σ H E W _ fun vs H1 e1 W1 xs => ⟨by rw [xs.length]; exact hl, fun p hp => q _ _ (e1.trans (ex_new hp)) (ow_mono W1 (ex_new hp)) (.lst (hide_new W1 hp) (xs.mono (ex_hide (ex_new hp))))⟩
/-- an operator on data -/
def OpD (K : PySem.W.Frag) (o : List Addr) (r : R2) (a b d : PyData) : Prop :=
  ∀ x y H, Owned H o → DD K (hide H o) x a → DD K (hide H o) y b → ∀ Q : VK, (∀ v H2, Ex H H2 → Owned H2 o → DD K (hide H2 o) v d → Q v H2) → r x y H Q
theorem ev_op {r : R2} {a b : PyData} (h1 : EvD K o ta ds a) (h2 : EvD K o tb ds b) (hr : OpD K o r a b d) : EvD K o (tOp r ta tb) ds d := fun σ H E W Q q =>
  h1 σ H E W _ fun v H1 e1 W1 x => h2 σ H1 (E.mono (ex_hide e1)) W1 _ fun u H2 e2 W2 y => hr v u H2 W2 (x.mono (ex_hide e2)) y Q fun z H3 e3 W3 c => q z H3 (e1.trans (e2.trans e3)) W3 c
theorem od_I0 {g : Int → Int → V} {i j : Int} (h : ∀ G, DD K G (g i j) d) : OpD K o (rI0 g) (.int i) (.int j) d := fun x y H W hx hy Q q =>
  ⟨i, j, dd_int hx, dd_int hy, q _ H (Same.refl H) W (h _)⟩
theorem od_add {i j : Int} : OpD K o (rI0 fun i j => .int (i + j)) (.int i) (.int j) (.int (i + j)) := od_I0 fun _ => .int _
theorem od_sub {i j : Int} : OpD K o (rI0 fun i j => .int (i - j)) (.int i) (.int j) (.int (i - j)) := od_I0 fun _ => .int _
theorem od_lt {i j : Int} : OpD K o (rI0 fun i j => .bl (decide (i < j))) (.int i) (.int j) (.bool (decide (i < j))) := od_I0 fun _ => .bl _
theorem od_le {i j : Int} : OpD K o (rI0 fun i j => .bl (decide (i ≤ j))) (.int i) (.int j) (.bool (decide (i ≤ j))) := od_I0 fun _ => .bl _
theorem od_gt {i j : Int} : OpD K o (rI0 fun i j => .bl (decide (j < i))) (.int i) (.int j) (.bool (decide (j < i))) := od_I0 fun _ => .bl _
theorem od_ge {i j : Int} : OpD K o (rI0 fun i j => .bl (decide (j ≤ i))) (.int i) (.int j) (.bool (decide (j ≤ i))) := od_I0 fun _ => .bl _
theorem od_I {C : Int → Int → Prop} {g : Int → Int → V} {i j : Int} (hc : C i j) (h : ∀ G, DD K G (g i j) d) : OpD K o (rI C g) (.int i) (.int j) d := fun x y H W hx hy Q q =>
  ⟨i, j, dd_int hx, dd_int hy, hc, q _ H (Same.refl H) W (h _)⟩
theorem od_eqD {a b : PyData} (h1 : SeqAt.shaped a = true) (h2 : SeqAt.shaped b = true) : OpD K [] (rEqD K) a b (.bool (PyData.eqv a b)) := fun x y H W hx hy Q q =>
  ⟨a, b, (hx.mono (fun a u e => (hide_some e).2)).dp (SeqAt.canLay_of_shaped h1), (hy.mono (fun a u e => (hide_some e).2)).dp (SeqAt.canLay_of_shaped h2), h1, h2, q _ H (Same.refl H) W (.bl _)⟩
theorem hide_ex {H : Hp} : Ex (hide H o) H := fun a u e => (hide_some e).2
theorem od_eqD' {a b : PyData} (h1 : SeqAt.shaped a = true) (h2 : SeqAt.shaped b = true) : OpD K o (rEqD K) a b (.bool (PyData.eqv a b)) := fun x y H W hx hy Q q =>
  ⟨a, b, (hx.mono hide_ex).dp (SeqAt.canLay_of_shaped h1), (hy.mono hide_ex).dp (SeqAt.canLay_of_shaped h2), h1, h2, q _ H (Same.refl H) W (.bl _)⟩
theorem scal_int {i j : Int} : scal (.int i) (.int j) = true := rfl
theorem scal_bl {i j : Bool} : scal (.bl i) (.bl j) = true := rfl
theorem od_eqI {i j : Int} : OpD K o rEq (.int i) (.int j) (.bool (decide (i = j))) := fun x y H W hx hy Q q => by
  rw [dd_int hx, dd_int hy]
  refine ⟨rfl, q _ H (Same.refl H) W ?_⟩
  have e : decide ((V.int i) = .int j) = decide (i = j) := decide_eq_decide.mpr ⟨fun h => V.int.inj h, fun h => by rw [h]⟩
  rw [e]
  exact .bl _
theorem od_eqB {i j : Bool} : OpD K o rEq (.bool i) (.bool j) (.bool (decide (i = j))) := fun x y H W hx hy Q q => by
  rw [dd_bool hx, dd_bool hy]
  refine ⟨rfl, q _ H (Same.refl H) W ?_⟩
  have e : decide ((V.bl i) = .bl j) = decide (i = j) := decide_eq_decide.mpr ⟨fun h => V.bl.inj h, fun h => by rw [h]⟩
  rw [e]
  exact .bl _
theorem od_neB {i j : Bool} : OpD K o rNe (.bool i) (.bool j) (.bool (!decide (i = j))) := fun x y H W hx hy Q q => by
  rw [dd_bool hx, dd_bool hy]
  refine ⟨rfl, q _ H (Same.refl H) W ?_⟩
  have e : decide ((V.bl i) = .bl j) = decide (i = j) := decide_eq_decide.mpr ⟨fun h => V.bl.inj h, fun h => by rw [h]⟩
  rw [e]
  exact .bl _
theorem od_neI {i j : Int} : OpD K o rNe (.int i) (.int j) (.bool (!decide (i = j))) := fun x y H W hx hy Q q => by
  rw [dd_int hx, dd_int hy]
  refine ⟨rfl, q _ H (Same.refl H) W ?_⟩
  have e : decide ((V.int i) = .int j) = decide (i = j) := decide_eq_decide.mpr ⟨fun h => V.int.inj h, fun h => by rw [h]⟩
  rw [e]
  exact .bl _
theorem at_dds {G : Hp} {xs : List V} {es : List PyData} {i : Int} (h : DDs K G xs es) (e : atI es i = some d) : ∃ v, atI xs i = some v ∧ DD K G v d := by
  unfold atI at e ⊢
  rw [← h.length] at e
  cases z : ixN xs.length i with
  | none => rw [z] at e; cases e
  | some j =>
    rw [z] at e
    exact h.at e
theorem od_ixT {es : List PyData} {i : Int} (e : atI es i = some d) : OpD K o (rIxT K) (.tuple es) (.int i) d := fun x y H W hx hy Q q => by
  obtain ⟨a, xs, rfl, h, t⟩ := dd_tup hx
  obtain ⟨v, hv, c⟩ := at_dds t e
  exact ⟨a, xs, i, v, rfl, dd_int hy, ex_sqT hide_ex h, hv, q v H (Same.refl H) W c⟩
theorem od_ixL {es : List PyData} {i : Int} (e : atI es i = some d) : OpD K o (rIxL K) (.list es) (.int i) d := fun x y H W hx hy Q q => by
  obtain ⟨a, xs, rfl, h, t⟩ := dd_lst hx
  obtain ⟨v, hv, c⟩ := at_dds t e
  exact ⟨a, xs, i, v, rfl, dd_int hy, SqL.of (hide_some h).2, hv, q v H (Same.refl H) W c⟩
theorem od_cat {as bs : List PyData} (hl : as.length + bs.length ≤ sizeLine) : OpD K o rCat (.list as) (.list bs) (.list (as ++ bs)) := fun x y H W hx hy Q q => by
  obtain ⟨a, xs, rfl, h, t⟩ := dd_lst hx
  obtain ⟨b, ys, rfl, h2, t2⟩ := dd_lst hy
  refine ⟨a, b, xs, ys, rfl, rfl, (hide_some h).2, (hide_some h2).2, by rw [t.length, t2.length]; exact hl, fun p hp => ?_⟩
  exact q _ _ (ex_new hp) (ow_mono W (ex_new hp)) (.lst (hide_new W hp) ((t.append t2).mono (ex_hide (ex_new hp))))
theorem od_catA {as bs : List PyData} (hl : as.length + bs.length ≤ sizeLine) : OpD K o (rCatA K) (.tuple as) (.tuple bs) (.tuple (as ++ bs)) := fun x y H W hx hy Q q => by
  obtain ⟨a, xs, rfl, h, t⟩ := dd_tup hx
  obtain ⟨b, ys, rfl, h2, t2⟩ := dd_tup hy
  have l1 := t.length
  have l2 := t2.length
  refine ⟨a, b, xs, ys, rfl, rfl, ex_sqT hide_ex h, ex_sqT hide_ex h2, by omega, fun z => ?_, fun _ z => ?_, fun _ _ p hp => ?_⟩
  · subst z
    have e : as = [] := List.eq_nil_of_length_eq_zero (by rw [← l1]; rfl)
    subst e
    exact q _ H (Same.refl H) W hy
  · subst z
    have e : bs = [] := List.eq_nil_of_length_eq_zero (by rw [← l2]; rfl)
    subst e
    refine q _ H (Same.refl H) W ?_
    rw [List.append_nil]
    exact hx
  · exact q _ _ (ex_new hp) (ow_mono W (ex_new hp)) (.tup (SqT.of (hide_new W hp)) ((t.append t2).mono (ex_hide (ex_new hp))))
/-! tests -/
theorem eb_test {b : Bool} (h : EvD K o te ds (.bool b)) : EvB K o (tTest te) ds b := fun σ H E W Q q =>
  h σ H E W _ fun v H1 e1 W1 x => ⟨b, dd_bool x, q H1 e1 W1⟩
theorem eb_B {b : Bool} (h : EvD K o te ds (.bool b)) : EvB K o (tB te) ds b := fun σ H E W Q q =>
  h σ H E W _ fun v H1 e1 W1 x => ⟨b, dd_bool x, q H1 e1 W1⟩
theorem eb_not {t : TT} {b : Bool} (h : EvB K o t ds b) : EvB K o (tNot t) ds (!b) := fun σ H E W Q q => h σ H E W _ fun H1 e1 W1 => q H1 e1 W1
theorem eb_and {t u : TT} {a b : Bool} (h1 : EvB K o t ds a) (h2 : a = true → EvB K o u ds b) : EvB K o (tAnd t u) ds (a && b) := fun σ H E W Q q =>
  h1 σ H E W _ fun H1 e1 W1 => by
    cases a with
    | true =>
      refine iteT ?_
      exact h2 rfl σ H1 (E.mono (ex_hide e1)) W1 _ fun H2 e2 W2 => q H2 (e1.trans e2) W2
    | false =>
      refine iteF ?_
      exact q H1 e1 W1
theorem eb_or {t u : TT} {a b : Bool} (h1 : EvB K o t ds a) (h2 : a = false → EvB K o u ds b) : EvB K o (tOr t u) ds (a || b) := fun σ H E W Q q =>
  h1 σ H E W _ fun H1 e1 W1 => by
    cases a with
    | true =>
      refine iteT ?_
      exact q H1 e1 W1
    | false =>
      refine iteF ?_
      exact h2 rfl σ H1 (E.mono (ex_hide e1)) W1 _ fun H2 e2 W2 => q H2 (e1.trans e2) W2
theorem ev_andV {a b : Bool} (h1 : EvD K o ta ds (.bool a)) (h2 : a = true → EvD K o tb ds (.bool b)) : EvD K o (tAndV ta tb) ds (.bool (a && b)) := fun σ H E W Q q =>
  h1 σ H E W _ fun v H1 e1 W1 x => by
    refine ⟨a, dd_bool x, ?_⟩
    cases a with
    | true =>
      refine iteT ?_
      exact h2 rfl σ H1 (E.mono (ex_hide e1)) W1 _ fun v H2 e2 W2 y => q v H2 (e1.trans e2) W2 y
    | false =>
      refine iteF ?_
      exact q _ H1 e1 W1 (.bl _)
theorem ev_orV {a b : Bool} (h1 : EvD K o ta ds (.bool a)) (h2 : a = false → EvD K o tb ds (.bool b)) : EvD K o (tOrV ta tb) ds (.bool (a || b)) := fun σ H E W Q q =>
  h1 σ H E W _ fun v H1 e1 W1 x => by
    refine ⟨a, dd_bool x, ?_⟩
    cases a with
    | true =>
      refine iteT ?_
      exact q _ H1 e1 W1 (.bl _)
    | false =>
      refine iteF ?_
      exact h2 rfl σ H1 (E.mono (ex_hide e1)) W1 _ fun v H2 e2 W2 y => q v H2 (e1.trans e2) W2 y
theorem ev_notV {a : Bool} (h1 : EvD K o ta ds (.bool a)) : EvD K o (tNotV ta) ds (.bool (!a)) := fun σ H E W Q q =>
  h1 σ H E W _ fun v H1 e1 W1 x => ⟨a, dd_bool x, q _ H1 e1 W1 (.bl _)⟩
theorem ev_ifE {t : TT} {b : Bool} (h : EvB K o t ds b) (h1 : b = true → EvD K o ta ds d) (h2 : b = false → EvD K o tb ds d) : EvD K o (tIf t ta tb) ds d := fun σ H E W Q q =>
  h σ H E W _ fun H1 e1 W1 => by
    cases b with
    | true =>
      refine iteT ?_
      exact h1 rfl σ H1 (E.mono (ex_hide e1)) W1 _ fun v H2 e2 W2 y => q v H2 (e1.trans e2) W2 y
    | false =>
      refine iteF ?_
      exact h2 rfl σ H1 (E.mono (ex_hide e1)) W1 _ fun v H2 e2 W2 y => q v H2 (e1.trans e2) W2 y
/-! calls -/
def CbD (K : PySem.W.Frag) (o : List Addr) (r : List V → Hp → VK → Prop) (as : List PyData) (d : PyData) : Prop :=
  ∀ xs H, Owned H o → DDs K (hide H o) xs as → ∀ Q : VK, (∀ v H2, Ex H H2 → Owned H2 o → DD K (hide H2 o) v d → Q v H2) → r xs H Q
theorem ev_cb {r : List V → Hp → VK → Prop} {t : TA} {as : List PyData} (h : EvA K o t ds as) (hr : CbD K o r as d) : EvD K o (tCB r t) ds d := fun σ H E W Q q =>
  h σ H E W _ fun vs H1 e1 W1 xs => hr vs H1 W1 xs Q fun v H2 e2 W2 y => q v H2 (e1.trans e2) W2 y
/-- a pure def's promise -/
def spD (K : PySem.W.Frag) (n : Nat) (R : List PyData → PyData → Prop) : Sp := fun vs H Q _ => ∃ as d, DDs K H vs as ∧ as.length = n ∧ R as d ∧ ∀ v H', Ex H H' → DD K H' v d → Q v H'
theorem back_hide {H G : Hp} (g : ∀ a ∈ o, G a = none) : hide (back H o G) o = G := by
  funext a
  by_cases c : a ∈ o
  · rw [hide_in c, g a c]
  · rw [hide_out c, back_out c]
theorem back_ex {H G : Hp} (e : Ex (hide H o) G) : Ex H (back H o G) := fun a x h => by
  by_cases c : a ∈ o
  · rw [back_in c]
    exact h
  · rw [back_out c]
    exact e a x (by rw [hide_out c]; exact h)
theorem ev_call {n : Nat} {R : List PyData → PyData → Prop} {E : XK} {t : TA} {as : List PyData} (h : EvA K o t ds as) (hn : as.length = n) (hr : R as d) : EvD K o (tCall (spHide (spD K n R)) [] E t) ds d := fun σ H En W Q q =>
  h σ H En W _ fun vs H1 e1 W1 xs => by
    show spHide (spD K n R) (vs ++ []) H1 Q E
    rw [List.append_nil]
    refine ⟨o, W1, as, d, xs, hn, hr, fun v G e x g => ?_⟩
    refine q v _ (e1.trans (back_ex e)) (ow_mono W1 (back_ex e)) ?_
    rw [back_hide g]
    exact x
end
end Ph

namespace Ph
open PySem PySem.Spec PyProof.Rows L2

/-! ### what is walked, by data -/
/-- J hands out values of the data es, one after another, as long as the frozen part G stands -/
def ItD (K : PySem.W.Frag) (G : Hp) (J : It) (es : List PyData) : Prop := ∀ (H : Hp) (o : List Addr), Ex G (hide H o) → Owned H o → ∀ i : Nat,
  (∀ e, es[i]? = some e → J.go i H ∧ ∀ x H', J.yld i H x H' → Ex H H' ∧ DD K (hide H' o) x e) ∧ (es.length ≤ i → J.stop i H)
def EvI (K : PySem.W.Frag) (o : List Addr) (wi : TI) (ds : List (Option PyData)) (es : List PyData) : Prop :=
  ∀ σ H, En K (hide H o) σ ds → Owned H o → ∀ R : It → Hp → Prop, (∀ J H2, Ex H H2 → Owned H2 o → ItD K (hide H2 o) J es → R J H2) → wi σ H R
section
variable {K : PySem.W.Frag} {o : List Addr} {ds : List (Option PyData)} {ta tb te : TE} {d e : PyData}
theorem it_tup {G : Hp} {a : Addr} {xs : List V} {es : List PyData} (h : SqT K G a xs) (t : DDs K G xs es) : ItD K G (Itt K a) es := fun H o g W i => by
  refine ⟨fun e he => ?_, fun hi => ?_⟩
  · obtain ⟨v, hv, c⟩ := t.at he
    refine ⟨⟨xs, v, ex_sqT hide_ex (ex_sqT g h), hv⟩, fun x H' y => ?_⟩
    obtain ⟨rfl, f⟩ := y
    have e2 := f xs (ex_sqT hide_ex (ex_sqT g h))
    rw [hv] at e2
    cases e2
    exact ⟨Same.refl _, c.mono g⟩
  · exact ⟨xs, ex_sqT hide_ex (ex_sqT g h), by rw [t.length]; exact hi⟩
theorem it_lst {G : Hp} {a : Addr} {xs : List V} {es : List PyData} (h : G a = some (.lst xs)) (t : DDs K G xs es) : ItD K G (Itl K a) es := fun H o g W i => by
  have h2 : SqL K H a xs := SqL.of (hide_ex _ _ (g _ _ h))
  refine ⟨fun e he => ?_, fun hi => ?_⟩
  · obtain ⟨v, hv, c⟩ := t.at he
    refine ⟨⟨xs, v, h2, hv⟩, fun x H' y => ?_⟩
    obtain ⟨rfl, f⟩ := y
    have e2 := f xs h2
    rw [hv] at e2
    cases e2
    exact ⟨Same.refl _, c.mono g⟩
  · exact ⟨xs, h2, by rw [t.length]; exact hi⟩
theorem it_rng {G : Hp} {lo : Int} {n : Nat} : ItD K G (Itr lo n) ((List.range n).map fun i => .int (lo + (i : Nat))) := fun H o g W i => by
  refine ⟨fun e he => ?_, fun hi => ?_⟩
  · rw [List.getElem?_map] at he
    have hi : i < n := by
      by_cases c : i < n
      · exact c
      · rw [List.getElem?_eq_none (by rw [List.length_range]; omega)] at he
        cases he
    rw [List.getElem?_eq_getElem (by rw [List.length_range]; exact hi), List.getElem_range] at he
    have he := Option.some.inj he
    refine ⟨hi, fun x H' y => ?_⟩
    obtain ⟨rfl, rfl⟩ := y
    rw [← he]
    exact ⟨Same.refl _, .int _⟩
  · rw [List.length_map, List.length_range] at hi
    exact hi
theorem pairUp {H : Hp} {o : List Addr} {x y : V} {a b : PyData} {T : Addr} (W : Owned H o) (n : H T = none) (h1 : DD K (hide H o) x a) (h2 : DD K (hide H o) y b) :
    Ex H (upd H T (.tup [x, y])) ∧ DD K (hide (upd H T (.tup [x, y])) o) (.ref T) (.tuple [a, b]) :=
  ⟨ex_new n, .tup (SqT.of (hide_new W n)) (.cons (h1.mono (ex_hide (ex_new n))) (.cons (h2.mono (ex_hide (ex_new n))) .nil))⟩
def zipD (as bs : List PyData) : List PyData := (as.zip bs).map fun p => .tuple [p.1, p.2]
theorem zipD_get {as bs : List PyData} {i : Nat} {e : PyData} (h : (zipD as bs)[i]? = some e) : ∃ a b, as[i]? = some a ∧ bs[i]? = some b ∧ e = .tuple [a, b] := by
  unfold zipD at h
  rw [List.getElem?_map] at h
  cases z : (as.zip bs)[i]? with
  | none => rw [z] at h; cases h
  | some p =>
    rw [z] at h
    have h := Option.some.inj h
    rw [List.getElem?_zip_eq_some] at z
    exact ⟨p.1, p.2, z.1, z.2, h.symm⟩
theorem zipD_len {as bs : List PyData} : (zipD as bs).length = min as.length bs.length := by
  unfold zipD
  rw [List.length_map, List.length_zip]
theorem it_zipT {G : Hp} {a b : Addr} {xs ys : List V} {as bs : List PyData} (h : SqT K G a xs) (h' : SqT K G b ys) (t : DDs K G xs as) (t' : DDs K G ys bs) : ItD K G (RZ.ItzT K a b) (zipD as bs) := fun H o g W i => by
  have q1 := ex_sqT hide_ex (ex_sqT g h)
  have q2 := ex_sqT hide_ex (ex_sqT g h')
  refine ⟨fun e he => ?_, fun hi => ?_⟩
  · obtain ⟨a', b', e1, e2, rfl⟩ := zipD_get he
    obtain ⟨v, hv, c⟩ := t.at e1
    obtain ⟨v', hv', c'⟩ := t'.at e2
    refine ⟨⟨xs, ys, v, v', q1, q2, hv, hv'⟩, fun x H' y => ?_⟩
    obtain ⟨T, x1, x2, rfl, nT, rfl, f1, f2⟩ := y
    have e1 := f1 xs q1
    have e2 := f2 ys q2
    rw [hv] at e1
    rw [hv'] at e2
    cases e1
    cases e2
    exact pairUp W nT (c.mono g) (c'.mono g)
  · rw [zipD_len] at hi
    refine ⟨xs, ys, q1, q2, ?_⟩
    rw [t.length, t'.length]
    omega
theorem it_zipL {G : Hp} {a b : Addr} {xs ys : List V} {as bs : List PyData} (h : G a = some (.lst xs)) (h' : G b = some (.lst ys)) (t : DDs K G xs as) (t' : DDs K G ys bs) : ItD K G (Itz K a b) (zipD as bs) := fun H o g W i => by
  have q1 : SqL K H a xs := SqL.of (hide_ex _ _ (g _ _ h))
  have q2 : SqL K H b ys := SqL.of (hide_ex _ _ (g _ _ h'))
  refine ⟨fun e he => ?_, fun hi => ?_⟩
  · obtain ⟨a', b', e1, e2, rfl⟩ := zipD_get he
    obtain ⟨v, hv, c⟩ := t.at e1
    obtain ⟨v', hv', c'⟩ := t'.at e2
    refine ⟨⟨xs, ys, v, v', q1, q2, hv, hv'⟩, fun x H' y => ?_⟩
    obtain ⟨T, x1, x2, rfl, nT, rfl, f1, f2⟩ := y
    have e1 := f1 xs q1
    have e2 := f2 ys q2
    rw [hv] at e1
    rw [hv'] at e2
    cases e1
    cases e2
    exact pairUp W nT (c.mono g) (c'.mono g)
  · rw [zipD_len] at hi
    refine ⟨xs, ys, q1, q2, ?_⟩
    rw [t.length, t'.length]
    omega
def enumD (es : List PyData) : List PyData := es.mapIdx fun i e => .tuple [.int (i : Nat), e]
theorem it_enum {G : Hp} {a : Addr} {xs : List V} {es : List PyData} (h : G a = some (.lst xs)) (t : DDs K G xs es) : ItD K G (Ite K a) (enumD es) := fun H o g W i => by
  have q1 : SqL K H a xs := SqL.of (hide_ex _ _ (g _ _ h))
  refine ⟨fun e he => ?_, fun hi => ?_⟩
  · unfold enumD at he
    rw [List.getElem?_mapIdx] at he
    cases z : es[i]? with
    | none => rw [z] at he; cases he
    | some a' =>
      rw [z] at he
      have he := Option.some.inj he
      obtain ⟨v, hv, c⟩ := t.at z
      refine ⟨⟨xs, v, q1, hv⟩, fun x H' y => ?_⟩
      obtain ⟨T, x1, rfl, nT, rfl, f1⟩ := y
      have e1 := f1 xs q1
      rw [hv] at e1
      cases e1
      rw [← he]
      exact pairUp W nT (.int _) (c.mono g)
  · unfold enumD at hi
    rw [List.length_mapIdx] at hi
    exact ⟨xs, q1, by rw [t.length]; exact hi⟩
/-! the readings of what is walked -/
theorem ei_tup {es : List PyData} (h : EvD K o ta ds (.tuple es)) : EvI K o (iTup K ta) ds es := fun σ H E W R r =>
  h σ H E W _ fun v H2 e2 W2 x => by
    obtain ⟨a, xs, rfl, q, t⟩ := dd_tup x
    exact ⟨a, rfl, ⟨xs, ex_sqT hide_ex q⟩, r _ H2 e2 W2 (it_tup q t)⟩
theorem ei_lst {es : List PyData} (h : EvD K o ta ds (.list es)) : EvI K o (iList K ta) ds es := fun σ H E W R r =>
  h σ H E W _ fun v H2 e2 W2 x => by
    obtain ⟨a, xs, rfl, q, t⟩ := dd_lst x
    exact ⟨a, rfl, ⟨xs, SqL.of (hide_some q).2⟩, r _ H2 e2 W2 (it_lst q t)⟩
theorem ei_rng1 {n : Int} (h : EvD K o ta ds (.int n)) (h1 : -(2 ^ 62) ≤ n) (h2 : n < 2 ^ 62) : EvI K o (iRng1 (tCons ta tNil)) ds ((List.range n.toNat).map fun i => .int (0 + (i : Nat))) := fun σ H E W R r =>
  h σ H E W _ fun v H2 e2 W2 x => ⟨n, by rw [dd_int x], h1, h2, r _ H2 e2 W2 it_rng⟩
theorem ei_enum {es : List PyData} (h : EvD K o ta ds (.list es)) : EvI K o (iEnum K (tCons ta tNil)) ds (enumD es) := fun σ H E W R r =>
  h σ H E W _ fun v H2 e2 W2 x => by
    obtain ⟨a, xs, rfl, q, t⟩ := dd_lst x
    exact ⟨a, xs, rfl, SqL.of (hide_some q).2, r _ H2 e2 W2 (it_enum q t)⟩
theorem ei_zipT {as bs : List PyData} (h : EvD K o ta ds (.tuple as)) (h' : EvD K o tb ds (.tuple bs)) : EvI K o (RZ.iZipA K (tCons ta (tCons tb tNil))) ds (zipD as bs) := fun σ H E W R r =>
  h σ H E W _ fun v H1 e1 W1 x => h' σ H1 (E.mono (ex_hide e1)) W1 _ fun u H2 e2 W2 y => by
    obtain ⟨a, xs, rfl, q, t⟩ := dd_tup (x.mono (ex_hide e2))
    obtain ⟨b, ys, rfl, q', t'⟩ := dd_tup y
    exact ⟨a, b, xs, ys, rfl, .inr ⟨ex_sqT hide_ex q, ex_sqT hide_ex q', r _ H2 (e1.trans e2) W2 (it_zipT q q' t t')⟩⟩
theorem ei_zipL {as bs : List PyData} (h : EvD K o ta ds (.list as)) (h' : EvD K o tb ds (.list bs)) : EvI K o (RZ.iZipA K (tCons ta (tCons tb tNil))) ds (zipD as bs) := fun σ H E W R r =>
  h σ H E W _ fun v H1 e1 W1 x => h' σ H1 (E.mono (ex_hide e1)) W1 _ fun u H2 e2 W2 y => by
    obtain ⟨a, xs, rfl, q, t⟩ := dd_lst (x.mono (ex_hide e2))
    obtain ⟨b, ys, rfl, q', t'⟩ := dd_lst y
    exact ⟨a, b, xs, ys, rfl, .inl ⟨SqL.of (hide_some q).2, SqL.of (hide_some q').2, r _ H2 (e1.trans e2) W2 (it_zipL q q' t t')⟩⟩

/-! ### targets -/
/-- binding data e at g turns the slots' data ds into ds' -/
def GtD (K : PySem.W.Frag) (g : TG) (ds : List (Option PyData)) (e : PyData) (ds' : List (Option PyData)) : Prop :=
  ∀ x σ H o, DD K (hide H o) x e → En K (hide H o) σ ds → ∀ Q : L2.St → Hp → Prop, (∀ σ', En K (hide H o) σ' ds' → Q σ' H) → g x σ H Q
def GtW (g : TG) (vs : List Nat) : Prop := ∀ x σ H (Q : L2.St → Hp → Prop), g x σ H Q → g x σ H fun σ' H' => L2.wipe σ' vs = L2.wipe σ vs ∧ Q σ' H'
theorem gt_name {i : Nat} : GtD K (gName i) ds e (ds.set i (some e)) := fun x σ H o h E Q q => q _ (E.set h i)
theorem gt_two {i j : Nat} {a b : PyData} : GtD K (gTup K 2 (gCons (gName i) (gCons (gName j) gNil))) ds (.tuple [a, b]) ((ds.set i (some a)).set j (some b)) := fun x σ H o h E Q q => by
  obtain ⟨p, xs, rfl, hq, t⟩ := dd_tup h
  cases t with
  | cons h1 t =>
    cases t with
    | cons h2 t =>
      cases t
      exact ⟨p, _, rfl, ex_sqT hide_ex hq, rfl, _, _, rfl, _, _, rfl, rfl, q _ ((E.set h1 i).set h2 j)⟩
theorem set_none_comm {σ : L2.St} {i j : Nat} {x : Option V} (h : i ≠ j) : (σ.set i x).set j none = (σ.set j none).set i x := List.set_comm x none h
theorem wipe_set {σ : L2.St} {x : Option V} {i : Nat} : ∀ {vs : List Nat}, i ∈ vs → L2.wipe (σ.set i x) vs = L2.wipe σ vs
  | [], h => by cases h
  | v :: vs, h => by
    show (L2.wipe (σ.set i x) vs).set v none = (L2.wipe σ vs).set v none
    by_cases c : i ∈ vs
    · rw [wipe_set c]
    · have e : i = v := by
        rcases List.mem_cons.mp h with e | e
        · exact e
        · exact absurd e c
      subst e
      have z : ∀ (ws : List Nat) (σ : L2.St), i ∉ ws → L2.wipe (σ.set i x) ws = (L2.wipe σ ws).set i x := by
        intro ws
        induction ws with
        | nil => intro σ _; rfl
        | cons w ws ih =>
          intro σ hw
          have hw1 : i ≠ w := fun e => hw (by rw [e]; exact List.mem_cons_self)
          have hw2 : i ∉ ws := fun e => hw (List.mem_cons_of_mem _ e)
          show (L2.wipe (σ.set i x) ws).set w none = ((L2.wipe σ ws).set w none).set i x
          rw [ih σ hw2, set_none_comm hw1]
      rw [z vs σ c, List.set_set]
theorem gw_name {i : Nat} {vs : List Nat} (h : i ∈ vs) : GtW (gName i) vs := fun x σ H Q q => ⟨wipe_set h, q⟩
theorem gw_two {i j : Nat} {vs : List Nat} (h : i ∈ vs) (h' : j ∈ vs) : GtW (gTup K 2 (gCons (gName i) (gCons (gName j) gNil))) vs := fun x σ H Q q => by
  obtain ⟨a, xs, rfl, hq, hl, v, r, rfl, v2, r2, rfl, rfl, q⟩ := q
  exact ⟨a, _, rfl, hq, hl, v, _, rfl, v2, _, rfl, rfl, by rw [wipe_set h', wipe_set h], q⟩
theorem wipe_wipe {σ : L2.St} {vs ws : List Nat} (h : ∀ v ∈ ws, v ∈ vs) : L2.wipe (L2.wipe σ ws) vs = L2.wipe σ vs := by
  induction ws with
  | nil => rfl
  | cons w ws ih =>
    show L2.wipe ((L2.wipe σ ws).set w none) vs = L2.wipe σ vs
    rw [wipe_set (h w List.mem_cons_self), ih fun v hv => h v (List.mem_cons_of_mem _ hv)]

/-! ### comprehensions -/
/-- [elt for target in iter if test]: keep and f say what the test and the element are worth at each datum -/
theorem ev_lc {wi : TI} {g : TG} {tt : TT} {vs : List Nat} {α : Type} (c : α → PyData) {xs : List α} (keep : α → Bool) (f : α → PyData) (ds' : α → List (Option PyData)) (hi : EvI K o wi ds (xs.map c)) (hl : xs.length ≤ 1000000) (hw : GtW g vs)
    (hg : ∀ e ∈ xs, GtD K g (wipeD ds vs) (c e) (ds' e)) (ht : ∀ e ∈ xs, ∀ o, EvB K o tt (ds' e) (keep e)) (he : ∀ e ∈ xs, keep e = true → ∀ o, EvD K o te (ds' e) (f e)) :
    EvD K o (tLc wi g tt te vs) ds (.list ((xs.filter keep).map f)) := fun σ H E W Q q =>
  hi σ H E W _ fun J H1 e1 W1 it D nD => by
    have nDo : D ∉ o := ow_new W1 nD
    have hG : ∀ {H' : Hp}, (∀ a x, a ≠ D → H1 a = some x → H' a = some x) → Ex (hide H1 o) (hide H' (D :: o)) := fun {H'} k a x z => by
      obtain ⟨cc, z⟩ := hide_some z
      have n : a ≠ D := ne_of_none z nD
      rw [hide_out (fun m => by rcases List.mem_cons.mp m with m | m; exact n m; exact cc m)]
      exact k a x n z
    refine ⟨fun i m H2 => m = xs.length - i ∧ i ≤ xs.length ∧ Ex H1 H2 ∧ ∃ acc, H2 D = some (.lst acc) ∧ DDs K (hide H2 (D :: o)) acc (((xs.take i).filter keep).map f), ⟨xs.length, ?_⟩, fun i m H2 w => ?_⟩
    · refine ⟨rfl, Nat.zero_le _, ex_new nD, [], upd_same, ?_⟩
      exact .nil
    · obtain ⟨rfl, hi, ex2, acc, hD, t⟩ := w
      have W2 : Owned H2 (D :: o) := fun a ha => by
        rcases List.mem_cons.mp ha with rfl | ha
        · exact ⟨_, hD, True.intro⟩
        · exact ow_mono W1 ex2 a ha
      have G2 : Ex (hide H1 o) (hide H2 (D :: o)) := hG fun a x _ z => ex2 a x z
      by_cases cl : i < xs.length
      · obtain ⟨e, he'⟩ : ∃ e, xs[i]? = some e := ⟨_, List.getElem?_eq_getElem cl⟩
        have hm : e ∈ xs := List.mem_of_getElem? he'
        obtain ⟨go, yl⟩ := (it H2 (D :: o) G2 W2 i).1 (c e) (by rw [List.getElem?_map, he']; rfl)
        have tk : xs.take (i + 1) = xs.take i ++ [e] := by rw [List.take_add_one, he']; rfl
        refine .inr ⟨go, fun H3 => Ex H1 H3 ∧ ∃ acc, H3 D = some (.lst acc) ∧ DDs K (hide H3 (D :: o)) acc (((xs.take (i + 1)).filter keep).map f), fun H' n => ⟨xs.length - (i + 1), by omega, rfl, cl, n.1, n.2⟩, fun x H' y => ?_⟩
        obtain ⟨ex3, hx⟩ := yl x H' y
        have W3 := ow_mono W2 ex3
        have E3 : En K (hide H' (D :: o)) (L2.wipe σ vs) (wipeD ds vs) := ((E.mono (ex_hide e1)).mono (G2.trans (ex_hide ex3))).wipe vs
        refine (show g x (L2.wipe σ vs) H' _ from ?_)
        have ww : L2.wipe (L2.wipe σ vs) vs = L2.wipe σ vs := wipe_wipe fun v hv => hv
        have z := hw x (L2.wipe σ vs) H' (fun σ2 H3 => tt σ2 H3 fun b H4 => if b = true then te σ2 H4 fun y H5 => ∃ acc, H5 D = some (.lst acc) ∧ acc.length < sizeLine ∧ (Ex H1 (upd H5 D (.lst (acc ++ [y]))) ∧ ∃ acc2, (upd H5 D (.lst (acc ++ [y]))) D = some (.lst acc2) ∧ DDs K (hide (upd H5 D (.lst (acc ++ [y]))) (D :: o)) acc2 (((xs.take (i + 1)).filter keep).map f)) else (Ex H1 H4 ∧ ∃ acc2, H4 D = some (.lst acc2) ∧ DDs K (hide H4 (D :: o)) acc2 (((xs.take (i + 1)).filter keep).map f)))
          (hg e hm x (L2.wipe σ vs) H' (D :: o) hx E3 _ fun σ2 E4 => ht e hm (D :: o) σ2 H' E4 W3 _ fun H4 ex4 W4 => ?_)
        · rw [ww] at z
          exact z
        · by_cases ck : keep e = true
          · rw [if_pos ck]
            refine he e hm ck (D :: o) σ2 H4 (E4.mono (ex_hide ex4)) W4 _ fun y H5 ex5 W5 hy => ?_
            have ex25 : Ex H2 H5 := ex3.trans (ex4.trans ex5)
            refine ⟨acc, ex25 _ _ hD, ?_, ?_, acc ++ [y], upd_same, ?_⟩
            · have l := t.length
              rw [l, List.length_map]
              have l2 : ((xs.take i).filter keep).length ≤ (xs.take i).length := List.length_filter_le ..
              rw [List.length_take] at l2
              exact Nat.lt_of_le_of_lt (show _ ≤ 1000000 by omega) (by decide)
            · intro a x h
              rw [upd_ne (ne_of_none h nD)]
              exact ex25 _ _ (ex2 _ _ h)
            · rw [tk, List.filter_append, List.map_append]
              have e1 : ([e].filter keep).map f = [f e] := by
                rw [List.filter_cons_of_pos ck]
                rfl
              rw [e1]
              have hh : hide (upd H5 D (.lst (acc ++ [y]))) (D :: o) = hide H5 (D :: o) := by
                funext a
                by_cases m : a ∈ D :: o
                · rw [hide_in m, hide_in m]
                · rw [hide_out m, hide_out m, upd_ne (fun z => m (by rw [z]; exact List.mem_cons_self))]
              rw [hh]
              exact (t.mono (ex_hide ex25)).append (.cons hy .nil)
          · rw [if_neg ck]
            refine ⟨ex2.trans (ex3.trans ex4), acc, ex4 _ _ (ex3 _ _ hD), ?_⟩
            rw [tk, List.filter_append, List.map_append]
            have e1 : ([e].filter keep).map f = [] := by
              rw [List.filter_cons_of_neg ck]
              rfl
            rw [e1, List.append_nil]
            exact t.mono (ex_hide (ex3.trans ex4))
      · have ei : xs.take i = xs := List.take_of_length_le (by omega)
        rw [ei] at t
        refine .inl ⟨(it H2 (D :: o) G2 W2 i).2 (by rw [List.length_map]; omega), q _ H2 (e1.trans ex2) (ow_mono W1 ex2) (.lst (by rw [hide_out nDo]; exact hD) (t.mono fun a x z => ?_))⟩
        obtain ⟨c2, z⟩ := hide_some z
        rw [hide_out (fun m => c2 (List.mem_cons_of_mem _ m))]
        exact z
/-- without a test -/
theorem eb_yes : EvB K o tYes ds true := fun σ H E W Q q => q H (Same.refl H) W
theorem ev_lcm {wi : TI} {g : TG} {vs : List Nat} {α : Type} (c : α → PyData) {xs : List α} (f : α → PyData) (ds' : α → List (Option PyData)) (hi : EvI K o wi ds (xs.map c)) (hl : xs.length ≤ 1000000) (hw : GtW g vs)
    (hg : ∀ e ∈ xs, GtD K g (wipeD ds vs) (c e) (ds' e)) (he : ∀ e ∈ xs, ∀ o, EvD K o te (ds' e) (f e)) :
    EvD K o (tLc wi g tYes te vs) ds (.list (xs.map f)) := by
  have z := ev_lc (tt := tYes) c (fun _ => true) f ds' hi hl hw hg (fun e _ o => eb_yes) (fun e hm _ o => he e hm o)
  rw [List.filter_eq_self.mpr (fun _ _ => rfl)] at z
  exact z
end
end Ph

namespace Ph
open PySem PySem.Spec PyProof.Rows L2

section
variable {K : PySem.W.Frag} {o : List Addr} {ds ds1 ds2 : List (Option PyData)} {ta tb te : TE} {d e : PyData}
/-! ### built-ins by data -/
def rLen (K : PySem.W.Frag) : List V → Hp → VK → Prop := fun xs H Q => ∃ p ys, xs = [.ref p] ∧ (SqL K H p ys ∨ SqT K H p ys) ∧ Q (.int ys.length) H
theorem cb_lenT {es : List PyData} : CbD K o (rLen K) [.tuple es] (.int es.length) := fun xs H W h Q q => by
  cases h with
  | cons h t =>
    cases t
    obtain ⟨a, ys, rfl, hq, t⟩ := dd_tup h
    refine ⟨a, ys, rfl, .inr (ex_sqT hide_ex hq), q _ H (Same.refl H) W ?_⟩
    rw [t.length]
    exact .int _
theorem cb_lenL {es : List PyData} : CbD K o (rLen K) [.list es] (.int es.length) := fun xs H W h Q q => by
  cases h with
  | cons h t =>
    cases t
    obtain ⟨a, ys, rfl, hq, t⟩ := dd_lst h
    refine ⟨a, ys, rfl, .inl (SqL.of (hide_some hq).2), q _ H (Same.refl H) W ?_⟩
    rw [t.length]
    exact .int _
def rTupOf (K : PySem.W.Frag) : List V → Hp → VK → Prop := fun xs H Q => ∃ p ys, xs = [.ref p] ∧ ((SqL K H p ys ∧ ∀ l, H l = none → Q (.ref l) (upd H l (.tup ys))) ∨ (SqT K H p ys ∧ Q (.ref p) H))
theorem cb_tupL {es : List PyData} : CbD K o (rTupOf K) [.list es] (.tuple es) := fun xs H W h Q q => by
  cases h with
  | cons h t =>
    cases t
    obtain ⟨a, ys, rfl, hq, t⟩ := dd_lst h
    exact ⟨a, ys, rfl, .inl ⟨SqL.of (hide_some hq).2, fun l hl => q _ _ (ex_new hl) (ow_mono W (ex_new hl)) (.tup (SqT.of (hide_new W hl)) (t.mono (ex_hide (ex_new hl))))⟩⟩
theorem cb_tupT {es : List PyData} : CbD K o (rTupOf K) [.tuple es] (.tuple es) := fun xs H W h Q q => by
  cases h with
  | cons h t =>
    cases t
    obtain ⟨a, ys, rfl, hq, t⟩ := dd_tup h
    exact ⟨a, ys, rfl, .inr ⟨ex_sqT hide_ex hq, q _ H (Same.refl H) W (.tup hq t)⟩⟩
def rLstOf (K : PySem.W.Frag) : List V → Hp → VK → Prop := fun xs H Q => ∃ p ys, xs = [.ref p] ∧ (SqL K H p ys ∨ SqT K H p ys) ∧ ∀ l, H l = none → Q (.ref l) (upd H l (.lst ys))
theorem cb_lstL {es : List PyData} : CbD K o (rLstOf K) [.list es] (.list es) := fun xs H W h Q q => by
  cases h with
  | cons h t =>
    cases t
    obtain ⟨a, ys, rfl, hq, t⟩ := dd_lst h
    exact ⟨a, ys, rfl, .inl (SqL.of (hide_some hq).2), fun l hl => q _ _ (ex_new hl) (ow_mono W (ex_new hl)) (.lst (hide_new W hl) (t.mono (ex_hide (ex_new hl))))⟩
theorem cb_lstT {es : List PyData} : CbD K o (rLstOf K) [.tuple es] (.list es) := fun xs H W h Q q => by
  cases h with
  | cons h t =>
    cases t
    obtain ⟨a, ys, rfl, hq, t⟩ := dd_tup h
    exact ⟨a, ys, rfl, .inr (ex_sqT hide_ex hq), fun l hl => q _ _ (ex_new hl) (ow_mono W (ex_new hl)) (.lst (hide_new W hl) (t.mono (ex_hide (ex_new hl))))⟩
theorem cb_all {bs : List Bool} : CbD K o (rAll K) [.list (bs.map PyData.bool)] (.bool (bs.all id)) := fun xs H W h Q q => by
  cases h with
  | cons h t =>
    cases t
    obtain ⟨a, ys, rfl, hq, t⟩ := dd_lst h
    rw [dds_bools t] at hq
    exact ⟨a, bs, rfl, SqL.of (hide_some hq).2, q _ H (Same.refl H) W (.bl _)⟩
def rMx : List V → Hp → VK → Prop := fun xs H Q => ∃ i j, xs = [.int i, .int j] ∧ Q (.int (if j > i then j else i)) H
theorem cb_max {i j : Int} : CbD K o rMx [.int i, .int j] (.int (if j > i then j else i)) := fun xs H W h Q q => by
  cases h with
  | cons h t =>
    cases t with
    | cons h2 t =>
      cases t
      rw [dd_int h, dd_int h2]
      exact ⟨i, j, rfl, q _ H (Same.refl H) W (.int _)⟩
/-! isinstance -/
def tyN : PyData → String
  | .none => "NoneType"
  | .bool _ => "bool"
  | .int _ => "int"
  | .str _ => "str"
  | .list _ => "list"
  | .tuple _ => "tuple"
  | .dict _ => "dict"
theorem ty_of {H : Hp} {v : V} (h : DD K H v d) : TyX K H v (.type (tyN d)) := by
  cases h with
  | non => exact .base .non
  | bl b => exact .base (.bl b)
  | int i => exact .base (.int i)
  | str x => exact .base (.str x)
  | lst h t => exact .base (.lst h)
  | dct h t => exact .base (.dK h)
  | tup h t =>
    rcases h with (h | ⟨ob, h⟩) | ⟨ob, its, n, hk, hc, _⟩
    · exact .base (.tup h)
    · exact .fTuple h
    · exact .kTuple hk hc
theorem ty_ex {H H' : Hp} {v : V} {n : String} (h : DD K H v d) (e : Ex H H') : TyX K H' v (.type (tyN d)) := ty_of (h.mono e)
theorem ev_isi {T : String} {b : Bool} (h : EvD K o ta ds d) (hb : kitB (tyN d) T = some b) : EvD K o (tCB (rIsi K) (tCons ta (tCons (tC (.ty T)) tNil))) ds (.bool b) := fun σ H E W Q q =>
  h σ H E W _ fun v H1 e1 W1 x => ⟨v, .ty T, _, _, b, rfl, .ty T, ty_ex x hide_ex (n := T), kit_ty hb, q _ H1 e1 W1 (.bl b)⟩
theorem ev_isiT {A B : String} {b1 b2 : Bool} (h : EvD K o ta ds d) (h1 : kitB (tyN d) A = some b1) (h2 : kitB (tyN d) B = some b2) :
    EvD K o (tCB (rIsiT K) (tCons ta (tCons (tTup (tCons (tC (.ty A)) (tCons (tC (.ty B)) tNil))) tNil))) ds (.bool (b1 || b2)) := fun σ H E W Q q =>
  h σ H E W _ fun v H1 e1 W1 x => ⟨by show 2 ≤ sizeLine; decide, fun p hp => by
    refine ⟨v, p, _, _, _, b1 || b2, rfl, upd_same, .cons (.ty A) (.cons (.ty B) .nil), ty_ex x (hide_ex.trans (ex_new hp)) (n := A), ?_, q _ _ (e1.trans (ex_new hp)) (ow_mono W1 (ex_new hp)) (.bl _)⟩
    refine kitAny_cons (kit_ty h1) (fun e => ?_) (fun e => by rw [e]; rfl)
    rw [e]
    refine kitAny_cons (kit_ty h2) (fun e => ?_) (fun e => by rw [e]; rfl)
    rw [e]
    exact kitAny_nil⟩
theorem ev_isN (h : EvD K o ta ds d) : EvD K o (tIsN ta) ds (.bool (match d with | .none => true | _ => false)) := fun σ H E W Q q =>
  h σ H E W _ fun v H1 e1 W1 x => by
    refine q _ H1 e1 W1 ?_
    cases x with
    | non => exact .bl _
    | bl b => exact .bl _
    | int i => exact .bl _
    | str i => exact .bl _
    | lst _ _ => exact .bl _
    | tup _ _ => exact .bl _
    | dct _ _ => exact .bl _
/-! == of scalars -/
def scalD : PyData → Bool
  | .none => true
  | .bool _ => true
  | .int _ => true
  | .str _ => true
  | _ => false
/-! ### statements -/
def SvN (K : PySem.W.Frag) (o : List Addr) (ts : TS) (ds ds' : List (Option PyData)) : Prop :=
  ∀ (D : Ends) σ H, En K (hide H o) σ ds → Owned H o → (∀ σ' H', Ex H H' → Owned H' o → En K (hide H' o) σ' ds' → D.nx σ' H') → ts D σ H
def SvR (K : PySem.W.Frag) (o : List Addr) (ts : TS) (ds : List (Option PyData)) (d : PyData) : Prop :=
  ∀ (D : Ends) σ H, En K (hide H o) σ ds → Owned H o → (∀ v H', Ex H H' → Owned H' o → DD K (hide H' o) v d → D.rt v H') → ts D σ H
theorem sn_seq {t u : TS} (h : SvN K o t ds ds1) (h2 : SvN K o u ds1 ds2) : SvN K o (tSeq t u) ds ds2 := fun D σ H E W q =>
  h _ σ H E W fun σ1 H1 e1 W1 E1 => h2 D σ1 H1 E1 W1 fun σ2 H2 e2 W2 E2 => q σ2 H2 (e1.trans e2) W2 E2
theorem sr_seq {t u : TS} (h : SvN K o t ds ds1) (h2 : SvR K o u ds1 d) : SvR K o (tSeq t u) ds d := fun D σ H E W q =>
  h _ σ H E W fun σ1 H1 e1 W1 E1 => h2 D σ1 H1 E1 W1 fun v H2 e2 W2 E2 => q v H2 (e1.trans e2) W2 E2
theorem sr_now {t u : TS} (h : SvR K o t ds d) : SvR K o (tSeq t u) ds d := fun D σ H E W q => h _ σ H E W q
theorem sn_nil : SvN K o tNext ds ds := fun D σ H E W q => q σ H (Same.refl H) W E
theorem sn_asg {g : TG} (h : EvD K o te ds e) (hg : GtD K g ds e ds1) : SvN K o (tAsg te g) ds ds1 := fun D σ H E W q =>
  h σ H E W _ fun v H1 e1 W1 x => hg v σ H1 o x (E.mono (ex_hide e1)) _ fun σ' E' => q σ' H1 e1 W1 E'
theorem sn_set {i : Nat} (h : EvD K o te ds e) : SvN K o (tAsg te (gName i)) ds (ds.set i (some e)) := sn_asg h gt_name
theorem sr_ret (h : EvD K o te ds d) : SvR K o (tRet te) ds d := fun D σ H E W q => h σ H E W _ q
theorem sn_if {c : TT} {t u : TS} {b : Bool} (h : EvB K o c ds b) (h1 : b = true → SvN K o t ds ds1) (h2 : b = false → SvN K o u ds ds1) : SvN K o (tIfS c t u) ds ds1 := fun D σ H E W q =>
  h σ H E W _ fun H1 e1 W1 => by
    cases b with
    | true =>
      refine iteT ?_
      exact h1 rfl D σ H1 (E.mono (ex_hide e1)) W1 fun σ' H' e W' E' => q σ' H' (e1.trans e) W' E'
    | false =>
      refine iteF ?_
      exact h2 rfl D σ H1 (E.mono (ex_hide e1)) W1 fun σ' H' e W' E' => q σ' H' (e1.trans e) W' E'
theorem sr_if {c : TT} {t u : TS} {b : Bool} (h : EvB K o c ds b) (h1 : b = true → SvR K o t ds d) (h2 : b = false → SvR K o u ds d) : SvR K o (tIfS c t u) ds d := fun D σ H E W q =>
  h σ H E W _ fun H1 e1 W1 => by
    cases b with
    | true =>
      refine iteT ?_
      exact h1 rfl D σ H1 (E.mono (ex_hide e1)) W1 fun v H' e W' E' => q v H' (e1.trans e) W' E'
    | false =>
      refine iteF ?_
      exact h2 rfl D σ H1 (E.mono (ex_hide e1)) W1 fun v H' e W' E' => q v H' (e1.trans e) W' E'
/-- if c: return ..; then the rest -/
theorem sr_ifRet {c : TT} {t u : TS} {b : Bool} (h : EvB K o c ds b) (h1 : b = true → SvR K o t ds d) (h2 : b = false → SvR K o u ds d) : SvR K o (tSeq (tIfS c t tNext) u) ds d := fun D σ H E W q =>
  h σ H E W _ fun H1 e1 W1 => by
    cases b with
    | true =>
      refine iteT ?_
      exact h1 rfl _ σ H1 (E.mono (ex_hide e1)) W1 fun v H' e W' E' => q v H' (e1.trans e) W' E'
    | false =>
      refine iteF ?_
      exact h2 rfl D σ H1 (E.mono (ex_hide e1)) W1 fun v H' e W' E' => q v H' (e1.trans e) W' E'
/-- a for over data: Pv by the heap at its begin, the turn, the slots and the heap -/
theorem for_dataG {wi : TI} {g : TG} {tb : TS} {es : List PyData} {D : Ends} {σ : L2.St} {H : Hp} (hi : ∀ R : It → Hp → Prop, (∀ J H2, Ex H H2 → Owned H2 o → ItD K (hide H2 o) J es → R J H2) → wi σ H R) (Pv : Hp → Nat → L2.St → Hp → Prop)
    (h0 : ∀ H1, Ex H H1 → Owned H1 o → Pv H1 0 σ H1) (fr : ∀ H1, Ex H H1 → Owned H1 o → ∀ i σ' H', Pv H1 i σ' H' → ∃ o', Ex (hide H1 o) (hide H' o') ∧ Owned H' o' ∧
      (∀ e, es[i]? = some e → ∀ x H2, Ex H' H2 → DD K (hide H2 o') x e → g x σ' H2 fun σ2 H3 => tb { D with nx := Pv H1 (i + 1), ct := Pv H1 (i + 1), bk := D.nx } σ2 H3) ∧ (i = es.length → D.nx σ' H')) : tFor wi g tb D σ H :=
  hi _ fun J H1 e1 W1 it => by
    refine ⟨fun i m σ' H' => m = es.length - i ∧ i ≤ es.length ∧ Pv H1 i σ' H', ⟨es.length, rfl, Nat.zero_le _, h0 H1 e1 W1⟩, fun i m σ' H' w => ?_⟩
    obtain ⟨rfl, hi, p⟩ := w
    obtain ⟨o', fz, W', turn, done⟩ := fr H1 e1 W1 i σ' H' p
    by_cases c : i < es.length
    · obtain ⟨e, he'⟩ : ∃ e, es[i]? = some e := ⟨_, List.getElem?_eq_getElem c⟩
      obtain ⟨go, yl⟩ := (it H' o' fz W' i).1 e he'
      refine .inr ⟨go, Pv H1 (i + 1), fun σ2 H2 n => ⟨es.length - (i + 1), by omega, rfl, c, n⟩, fun x H2 y => ?_⟩
      obtain ⟨ex2, hx⟩ := yl x H2 y
      exact turn e he' x H2 ex2 hx
    · exact .inl ⟨(it H' o' fz W' i).2 (by omega), done (by omega)⟩
/-- a for over data: Pv by the heap at its begin, the turn, the slots and the heap -/
theorem for_data {wi : TI} {g : TG} {tb : TS} {es : List PyData} {D : Ends} {σ : L2.St} {H : Hp} (hi : EvI K o wi ds es) (E : En K (hide H o) σ ds) (W : Owned H o) (Pv : Hp → Nat → L2.St → Hp → Prop)
    (h0 : ∀ H1, Ex H H1 → Owned H1 o → Pv H1 0 σ H1) (fr : ∀ H1, Ex H H1 → Owned H1 o → ∀ i σ' H', Pv H1 i σ' H' → ∃ o', Ex (hide H1 o) (hide H' o') ∧ Owned H' o' ∧
      (∀ e, es[i]? = some e → ∀ x H2, Ex H' H2 → DD K (hide H2 o') x e → g x σ' H2 fun σ2 H3 => tb { D with nx := Pv H1 (i + 1), ct := Pv H1 (i + 1), bk := D.nx } σ2 H3) ∧ (i = es.length → D.nx σ' H')) : tFor wi g tb D σ H :=
  for_dataG (fun R r => hi σ H E W R r) Pv h0 fr
/-- a for that changes the slots' data alone; the rest behind it. stop: the turn that returns -/
theorem sr_for {wi : TI} {g : TG} {tb u : TS} {es : List PyData} (I : Nat → List (Option PyData)) (stop : Nat → Bool) (hi : EvI K o wi (I 0) es)
    (ht : ∀ i e, es[i]? = some e → ∃ dm, GtD K g (I i) e dm ∧ (stop i = true → SvR K o tb dm d) ∧ (stop i = false → SvN K o tb dm (I (i + 1))))
    (hu : (∀ i, i < es.length → stop i = false) → SvR K o u (I es.length) d) : SvR K o (tSeq (tFor wi g tb) u) (I 0) d := fun D σ H E W q => by
  refine for_data (D := { D with nx := u D }) hi E W (fun H1 i σ' H' => Ex H1 H' ∧ Owned H' o ∧ En K (hide H' o) σ' (I i) ∧ ∀ j, j < i → stop j = false) (fun H1 e1 W1 => ⟨Same.refl _, W1, E.mono (ex_hide e1), fun j hj => absurd hj (Nat.not_lt_zero _)⟩) ?_
  intro H1 e1 W1 i σ' H' p
  obtain ⟨e2, W2, E2, nos⟩ := p
  refine ⟨o, ex_hide e2, W2, fun e he x H2 e3 hx => ?_, fun hl => ?_⟩
  · obtain ⟨dm, hg, hs, hc⟩ := ht i e he
    refine hg x σ' H2 o hx (E2.mono (ex_hide e3)) _ fun σ2 E3 => ?_
    cases cs : stop i with
    | true => exact hs cs _ σ2 H2 E3 (ow_mono W2 e3) fun v H4 e4 W4 x4 => q v H4 (e1.trans (e2.trans (e3.trans e4))) W4 x4
    | false =>
      refine hc cs _ σ2 H2 E3 (ow_mono W2 e3) fun σ4 H4 e4 W4 E4 => ⟨e2.trans (e3.trans e4), W4, E4, fun j hj => ?_⟩
      by_cases z : j < i
      · exact nos j z
      · have : j = i := by omega
        rw [this]
        exact cs
  · subst hl
    exact hu nos D σ' H' E2 W2 fun v H4 e4 W4 x4 => q v H4 (e1.trans (e2.trans e4)) W4 x4
theorem sn_for {wi : TI} {g : TG} {tb : TS} {es : List PyData} (I : Nat → List (Option PyData)) (hi : EvI K o wi (I 0) es)
    (ht : ∀ i e, es[i]? = some e → ∃ dm, GtD K g (I i) e dm ∧ SvN K o tb dm (I (i + 1))) : SvN K o (tFor wi g tb) (I 0) (I es.length) := fun D σ H E W q => by
  refine for_data (D := D) hi E W (fun H1 i σ' H' => Ex H1 H' ∧ Owned H' o ∧ En K (hide H' o) σ' (I i)) (fun H1 e1 W1 => ⟨Same.refl _, W1, E.mono (ex_hide e1)⟩) ?_
  intro H1 e1 W1 i σ' H' p
  obtain ⟨e2, W2, E2⟩ := p
  refine ⟨o, ex_hide e2, W2, fun e he x H2 e3 hx => ?_, fun hl => ?_⟩
  · obtain ⟨dm, hg, hc⟩ := ht i e he
    refine hg x σ' H2 o hx (E2.mono (ex_hide e3)) _ fun σ2 E3 => ?_
    exact hc _ σ2 H2 E3 (ow_mono W2 e3) fun σ4 H4 e4 W4 E4 => ⟨e2.trans (e3.trans e4), W4, E4⟩
  · subst hl
    exact q σ' H' (e1.trans e2) W2 E2
end
section
variable {P : Program} {w : World} {K : PySem.W.Frag} {mg : Str → Option Value} {base : Heap}
theorem en_start {H : Hp} : ∀ {vs : List V} {as : List PyData} (n : Nat), DDs K H vs as → En K H (vs.map some ++ List.replicate n none) (as.map some ++ List.replicate n none)
  | _, _, 0, .nil => .nil
  | _, _, n + 1, .nil => .no (en_start (vs := []) (as := []) n .nil)
  | _, _, n, .cons h t => .yes h (en_start n t)
theorem hide_nil {H : Hp} : hide H [] = H := by
  funext a
  exact hide_out (by simp)
/-- the slots' data at a def's entry -/
def startD (N : List Str) (as : List PyData) : List (Option PyData) := as.map some ++ List.replicate (N.length - as.length) none
theorem fn_pure {x qual : Str} {st : Stmt} {f : Addr} {fd : FuncData} {N ps : List Str} {k n : Nat} {R : List PyData → PyData → Prop} (F : Fun K x qual st f fd) (S : FnScope N ps (defScope st)) (hn : ps.length = n)
    (hbody : ∀ (cdv : Value) (A : Around) (outer : List Env) (s : Shared) (H : Hp) (E : XK), Room k (A.deeper (envOfC qual (defScope st) s.heap.objs.size f cdv)) →
      ∃ t, PSs (cxOf CX0 P w K mg base N qual (defScope st) f cdv A outer s H E).nox (defBody st) t ∧ ∀ as d, as.length = n → R as d → SvR K [] t (startD N as) d) : FnOk P w K mg base CX0 (k + 1) f fd ps (spD K n R) := by
  refine F.ok S (fun vs H Q E h => ?_) (fun cdv A outer s H vs Q E hr h => ?_)
  · obtain ⟨as, d, h, hl, _⟩ := h
    rw [h.length, hl, hn]
  · obtain ⟨as, d, h, hl, hR, q⟩ := h
    obtain ⟨t, hp, hv⟩ := hbody cdv A outer s H E hr
    refine ⟨t, hp, ?_⟩
    have z : start N vs = vs.map some ++ List.replicate (N.length - vs.length) none := rfl
    rw [z, h.length]
    refine hv as d hl hR _ _ H (by rw [hide_nil]; exact en_start _ h) (fun a ha => by cases ha) fun v H' e W x => ?_
    rw [hide_nil] at x
    exact q v H' e x
end
end Ph

namespace Ph
open PySem PySem.Spec PyProof.Rows L2

/-- a def by its name: where it stands, its promise -/
def Cal (P : Program) (w : World) (K : PySem.W.Frag) (mg : Str → Option Value) (base : Heap) (x : Str) (k : Nat) (ps : List Str) (sp : Sp) : Prop :=
  ∃ (f : Addr) (fd : FuncData), mg x = some (.ref f) ∧ PySem.W.keepIn K (.ref f) = true ∧ Binds K fd ps [] ∧ FnOk P w K mg base CX0 k f fd ps sp
theorem pe_cal {X : Cx} {x : Str} {k : Nat} {ps : List Str} {sp : Sp} {p pos : Pos} {e : Expr} {es : List Expr} {t : TA} (C : Cal X.prog X.w X.K X.mg X.base x k ps sp) (hr : Room k X.A) (hg : Gl X x) (ha : PA X (e :: es) t)
    (hdb : (x == ("__debug__" : Str)) = false := by decide) (he : starEach (e :: es) X.env = (false, eval e X.env) :: starEach es X.env := by rfl) (hpl : (backTo pos (starEach es X.env)).any (·.1) = false := by rfl) :
    PE X (.Call (.Name x p) (e :: es) [] pos) (tCall (spHide sp) [] E0 t) := by
  obtain ⟨f, fd, hm, hk, hb, F⟩ := C
  exact pe_call (fn_hide F) hr hg hm hk hb .nil pass0 ha hdb he hpl
theorem pe_calU {X : Cx} {x : Str} {k : Nat} {ps : List Str} {sp : Sp} {p pos : Pos} {e : Expr} {es : List Expr} {t : TA} (C : Cal X.prog X.w X.K X.mg X.base x k ps sp) (hr : Room k X.A) (hg : Gl X x) (ha : PA X (e :: es) t)
    (hdb : (x == ("__debug__" : Str)) = false := by decide) (he : starEach (e :: es) X.env = (false, eval e X.env) :: starEach es X.env := by rfl) (hpl : (backTo pos (starEach es X.env)).any (·.1) = false := by rfl) :
    PE X (.Call (.Name x p) (e :: es) [] pos) (tCall sp [] E0 t) := by
  obtain ⟨f, fd, hm, hk, hb, F⟩ := C
  exact pe_call F hr hg hm hk hb .nil pass0 ha hdb he hpl
/-- the built-in names that stay the built-in ones -/
structure Blt (mg : Str → Option Value) : Prop where
  isinstance : mg "isinstance" = none
  len : mg "len" = none
  tuple : mg "tuple" = none
  list : mg "list" = none
  int : mg "int" = none
  bool : mg "bool" = none
  str : mg "str" = none
  all : mg "all" = none
  range : mg "range" = none
  enumerate : mg "enumerate" = none
  zip : mg "zip" = none
  max : mg "max" = none
  abs : mg "abs" = none
section
variable {K : PySem.W.Frag} {o : List Addr} {ds : List (Option PyData)} {ta tb te : TE} {d e : PyData}
/-- == of a thing with itself: None, bool, int, text -/
theorem od_eqS {a : PyData} (h : scalD a = true) : OpD K o rEq a a (.bool true) := fun x y H W hx hy Q q => by
  have e : x = y := by
    cases hx <;> cases hy <;> first | rfl | cases h
  subst e
  have s : scal x x = true := by cases hx <;> first | rfl | cases h
  refine ⟨s, q _ H (Same.refl H) W ?_⟩
  rw [decide_eq_true rfl]
  exact .bl _
theorem ev_to (h : EvD K o te ds d) (e' : d = e) : EvD K o te ds e := e' ▸ h
theorem gt_to {g : TG} {ds' ds2 : List (Option PyData)} (h : GtD K g ds e ds') (e' : ds' = ds2) : GtD K g ds e ds2 := e' ▸ h
end
end Ph
namespace Ph
open PySem PySem.Spec PyProof.Rows L2
def isInt : PyData → Bool
  | .int _ => true
  | .bool _ => true
  | _ => false
def isBool : PyData → Bool
  | .bool _ => true
  | _ => false
def isList : PyData → Bool
  | .list _ => true
  | _ => false
def isTuple : PyData → Bool
  | .tuple _ => true
  | _ => false
def isStr : PyData → Bool
  | .str _ => true
  | _ => false
def isNone : PyData → Bool
  | .none => true
  | _ => false
theorem kInt : ∀ d : PyData, kitB (tyN d) "int" = some (isInt d) := fun d => by
  cases d <;> (first | (show kitB "NoneType" "int" = some false; decide +kernel) | (show kitB "bool" "int" = some true; decide +kernel) | (show kitB "int" "int" = some true; decide +kernel) | (show kitB "str" "int" = some false; decide +kernel) | (show kitB "list" "int" = some false; decide +kernel) | (show kitB "tuple" "int" = some false; decide +kernel) | (show kitB "dict" "int" = some false; decide +kernel))
theorem kBool : ∀ d : PyData, kitB (tyN d) "bool" = some (isBool d) := fun d => by
  cases d <;> (first | (show kitB "NoneType" "bool" = some false; decide +kernel) | (show kitB "bool" "bool" = some true; decide +kernel) | (show kitB "int" "bool" = some false; decide +kernel) | (show kitB "str" "bool" = some false; decide +kernel) | (show kitB "list" "bool" = some false; decide +kernel) | (show kitB "tuple" "bool" = some false; decide +kernel) | (show kitB "dict" "bool" = some false; decide +kernel))
theorem kList : ∀ d : PyData, kitB (tyN d) "list" = some (isList d) := fun d => by
  cases d <;> (first | (show kitB "NoneType" "list" = some false; decide +kernel) | (show kitB "bool" "list" = some false; decide +kernel) | (show kitB "int" "list" = some false; decide +kernel) | (show kitB "str" "list" = some false; decide +kernel) | (show kitB "list" "list" = some true; decide +kernel) | (show kitB "tuple" "list" = some false; decide +kernel) | (show kitB "dict" "list" = some false; decide +kernel))
theorem kTuple : ∀ d : PyData, kitB (tyN d) "tuple" = some (isTuple d) := fun d => by
  cases d <;> (first | (show kitB "NoneType" "tuple" = some false; decide +kernel) | (show kitB "bool" "tuple" = some false; decide +kernel) | (show kitB "int" "tuple" = some false; decide +kernel) | (show kitB "str" "tuple" = some false; decide +kernel) | (show kitB "list" "tuple" = some false; decide +kernel) | (show kitB "tuple" "tuple" = some true; decide +kernel) | (show kitB "dict" "tuple" = some false; decide +kernel))
theorem kStr : ∀ d : PyData, kitB (tyN d) "str" = some (isStr d) := fun d => by
  cases d <;> (first | (show kitB "NoneType" "str" = some false; decide +kernel) | (show kitB "bool" "str" = some false; decide +kernel) | (show kitB "int" "str" = some false; decide +kernel) | (show kitB "str" "str" = some true; decide +kernel) | (show kitB "list" "str" = some false; decide +kernel) | (show kitB "tuple" "str" = some false; decide +kernel) | (show kitB "dict" "str" = some false; decide +kernel))
section
variable {K : PySem.W.Frag} {o : List Addr} {ds : List (Option PyData)} {ta tb te : TE} {d e : PyData}
theorem ev_is_int (h : EvD K o ta ds d) : EvD K o (tCB (rIsi K) (tCons ta (tCons (tC (.ty "int")) tNil))) ds (.bool (isInt d)) := ev_isi h (kInt d)
theorem ev_is_bool (h : EvD K o ta ds d) : EvD K o (tCB (rIsi K) (tCons ta (tCons (tC (.ty "bool")) tNil))) ds (.bool (isBool d)) := ev_isi h (kBool d)
theorem ev_is_list (h : EvD K o ta ds d) : EvD K o (tCB (rIsi K) (tCons ta (tCons (tC (.ty "list")) tNil))) ds (.bool (isList d)) := ev_isi h (kList d)
theorem ev_is_tuple (h : EvD K o ta ds d) : EvD K o (tCB (rIsi K) (tCons ta (tCons (tC (.ty "tuple")) tNil))) ds (.bool (isTuple d)) := ev_isi h (kTuple d)
theorem ev_is_str (h : EvD K o ta ds d) : EvD K o (tCB (rIsi K) (tCons ta (tCons (tC (.ty "str")) tNil))) ds (.bool (isStr d)) := ev_isi h (kStr d)
theorem ev_is_list_tuple (h : EvD K o ta ds d) : EvD K o (tCB (rIsiT K) (tCons ta (tCons (tTup (tCons (tC (.ty "list")) (tCons (tC (.ty "tuple")) tNil))) tNil))) ds (.bool (isList d || isTuple d)) := ev_isiT h (kList d) (kTuple d)
theorem ev_is_bool_str (h : EvD K o ta ds d) : EvD K o (tCB (rIsiT K) (tCons ta (tCons (tTup (tCons (tC (.ty "bool")) (tCons (tC (.ty "str")) tNil))) tNil))) ds (.bool (isBool d || isStr d)) := ev_isiT h (kBool d) (kStr d)
theorem ev_isNone (h : EvD K o ta ds d) : EvD K o (tIsN ta) ds (.bool (isNone d)) := by
  have z := ev_isN h
  cases d <;> exact z
end
end Ph
namespace Ph
open PySem PySem.Spec PyProof.Rows L2
theorem sr_to {K : PySem.W.Frag} {o : List Addr} {ds : List (Option PyData)} {ts : TS} {d e : PyData} (h : SvR K o ts ds d) (q : d = e) : SvR K o ts ds e := q ▸ h
end Ph
namespace Ph
open PySem PySem.Spec PyProof.Rows L2
section
variable {K : PySem.W.Frag} {o : List Addr} {ds : List (Option PyData)} {ta tb te : TE} {d e : PyData}
/-- all([..]) -/
theorem ev_allc {wi : TI} {g : TG} {vs : List Nat} {α : Type} (c : α → PyData) {xs : List α} (f : α → Bool) (ds' : α → List (Option PyData)) (hi : EvI K o wi ds (xs.map c)) (hl : xs.length ≤ 1000000) (hw : GtW g vs)
    (hg : ∀ e ∈ xs, GtD K g (wipeD ds vs) (c e) (ds' e)) (he : ∀ e ∈ xs, ∀ o, EvD K o te (ds' e) (.bool (f e))) : EvD K o (tCB (rAll K) (tCons (tLc wi g tYes te vs) tNil)) ds (.bool (xs.all f)) := by
  have z := ev_lcm c (fun e => .bool (f e)) ds' hi hl hw hg he
  have e1 : xs.map (fun e => PyData.bool (f e)) = (xs.map f).map PyData.bool := by rw [List.map_map]; rfl
  rw [e1] at z
  have e2 : xs.all f = (xs.map f).all id := by rw [List.all_map]; rfl
  rw [e2]
  exact ev_cb (ea_cons z ea_nil) cb_all
theorem sn_par {i j : Nat} {ta : TA} {a b : PyData} (h : EvA K o ta ds [a, b]) : SvN K o (tPar i j ta) ds ((ds.set i (some a)).set j (some b)) := fun D σ H E W q =>
  h σ H E W _ fun vs H1 e1 W1 xs => by
    cases xs with
    | cons h1 t =>
      cases t with
      | cons h2 t =>
        cases t
        exact ⟨_, _, rfl, q _ _ e1 W1 (((E.mono (ex_hide e1)).set h1 i).set h2 j)⟩
end
abbrev chg (p : Int × Int) : PyData := .tuple [.int p.1, .int p.2]
abbrev nums (ns : List Int) : PyData := .tuple (ns.map PyData.int)
abbrev his (m : Int) (cs : List (Int × Int)) : PyData := .tuple [.int m, .tuple (cs.map chg)]
end Ph
namespace Ph
open PySem PySem.Spec PyProof.Rows L2
theorem zipD_self : ∀ es : List PyData, zipD es es = es.map fun e => .tuple [e, e]
  | [] => rfl
  | e :: es => by
    have ih := zipD_self es
    unfold zipD at ih ⊢
    rw [List.zip_cons_cons, List.map_cons, List.map_cons, ih]
/-- plain data of bounded depth -/
def okD : Nat → PyData → Prop
  | 0, d => scalD d = true
  | n + 1, .list es => es.length ≤ 1000000 ∧ ∀ e ∈ es, okD n e
  | n + 1, .tuple es => es.length ≤ 1000000 ∧ ∀ e ∈ es, okD n e
  | _ + 1, d => scalD d = true
def R_same : Nat → List PyData → PyData → Prop
  | 0, _, _ => False
  | n + 1, as, d => ∃ a, as = [a, a] ∧ okD n a ∧ d = .bool true
theorem okD_scal {d : PyData} : ∀ {n : Nat}, scalD d = true → okD n d
  | 0, h => h
  | n + 1, h => by cases d <;> first | exact h | cases h
end Ph

namespace Ph
open PySem PySem.Spec PyProof.Rows L2

/-! ### an own error straight over LookupError, its __init__ calling LookupError.__init__ and keeping one field -/
abbrev leM : List Value := [.type "LookupError", .type "Exception", .type "BaseException", .type "object"]
theorem leHas (Y : String) : leM.contains (.type Y) = leM.contains (.type Y) := rfl
/-- what the written part says of such a class at C -/
structure LxC (K : PySem.W.Frag) (C : Addr) : Prop where
  obj : ∃ nm qn N bs sn sub ab col dd v0 v1 v2 v3 v5,
    K.lookup C = some (excClassObj nm qn C N bs leM true sn sub ab col dd v0 v1 v2 v3 v5 "LookupError.__new__")
  sa : PySem.W.findIn K (.ref C) "__setattr__" = some (some (.builtin "object.__setattr__"))
  isE : PySem.W.subIn K (.ref C) (.type "BaseException") = some true
  ty : PySem.W.typeIn K (.ref C) = some (.type "type")
  keep : PySem.W.keepIn K (.ref C) = true
theorem leTy : typeOf (.type "LookupError") = pure (.type "type") := by kernel_rfl
section
open PySem.W PySem.Calls Builtin Builtin.ObjectAttr
variable {prog : Program} {w : World} {A : Around} {R : Result → Shared → Prop}
  {hp : Heap} {g : Array GenState} {dr : Drawn} {tk0 : Nat} {os : OsState}
/-- the first store into such an error: its dict is laid -/
theorem le_store {K : Frag} {name : Str} {tk : Tok} {v : Value} {x C : Addr} {fv : Array Value}
    {nm qn : Str} {N : Addr} {bs : List Value} {sn : List Str} {sb : List Value} {ab : Bool} {co : Option Bool}
    (X : K.In hp) (hx : hp.get? x = some { cls := .ref C, data := .fields fv })
    (hcd : clsIn K C = some { name := nm, bases := bs, mro := .ref C :: leM, ns := N, qualname := qn, hasDict := true, slotNames := sn, subclasses := sb, abstract := ab, collection := co, hasDel := false })
    (ha : findIn K (.ref C) name = some none)
    (hq : ∀ h' t' dx, (∀ b o, b ≠ x → hp.get? b = some o → h'.get? b = some o) → hp.objs.size ≤ dx → dx ≠ x →
      h'.get? x = some { cls := .ref C, dict := some dx, data := .fields fv } →
      h'.Ns1 dx (fun y => if y = name then some v else none) → R (.ok (.ret .none)) ⟨h', g, dr, t', os⟩) :
    codeAny (model prog w) A (.call (.builtin "object.__setattr__") ⟨[.ref x, .str name tk, v], []⟩) R
      ⟨hp, g, dr, tk0, os⟩ := by
  have J : InstAt hp x { cls := .ref C, data := .fields fv } C none := ⟨hx, rfl, rfl, trivial⟩
  have sf := F.store_object
  have far : x ≠ hp.objs.size := Nat.ne_of_lt (Heap.lt_size hx)
  have isO : Looks (model prog w) hp (isInstance (.ref x) (.type "object")) true := by
    refine J.type.andThen (looks_mroIn X ?_)
    unfold mroIn
    rw [hcd, Option.bind_some] <;> rfl
  refine codeAny_call_builtin sf.slot.plain sf.entry ?_
  refine @check_slot (model prog w) _ _ ⟨hp, g, dr, tk0, os⟩ "object.__setattr__" "object" "__setattr__"
    (.ref x) [.str name tk, v] [] _ sf.kind sf.split isO (sf.args (.ref x) (.str name tk) v) ?_
  have m1 : Looks (model prog w) hp (mroOf (.ref C)) (.ref C :: leM) := (looks_clsIn X hcd).andThen .now
  have m2 : Looks (model prog w) hp (storeTaker? none) none := .now
  have m3 := looks_clsIn (M := model prog w) X hcd
  rw [osa_eq, PySem.refuse_eq]
  refine wpAny_bind (wpAny_bind (J.type.at (wpAny_bind (m1.at ?_))))
  rw [refuseLoop_ref, F.store_LookupError.passes]
  refine wpAny_pure (wpAny_bind (J.type.at (wpAny_bind ((looks_findIn X ha).at (wpAny_bind (m2.at ?_))))))
  show wpAny _ _ (storeInOwnDict (.ref x) (.ref C) (.str name tk) name v false) _ _ _
  unfold storeInOwnDict ownDictForStores
  repeat (first
    | with_reducible refine PySem.HandSPX.store_in_new ?_ ?_
    | with_reducible refine wpAny_loadPart_at hx ?_
    | with_reducible refine m3.at ?_
    | wp_step)
  · refine ⟨_, #[], _, (Heap.get?_update_ne _ _ _ _ far.symm).trans (Heap.get?_push_at rfl rfl), rfl, ?_, fun _ => rfl⟩
    intro e he
    exact absurd he (by simp)
  · intro h' t' hn hs
    have hx1 := Heap.get?_push_of_some (h := hp) { cls := .type "dict", data := .dict #[] } hx
    refine hq h' t' hp.objs.size (fun b o hb ho => ?_) (Nat.le_refl _) far.symm ?_ hn
    · refine (hs.2 b (Nat.ne_of_lt (Heap.lt_size ho))).trans ?_
      exact (Heap.get?_update_ne _ _ _ _ hb).trans (Heap.get?_push_of_some _ ho)
    · exact (hs.2 x far).trans (Heap.get?_update_self _ hx1 rfl)
end
end Ph

namespace Ph
open PySem PySem.Spec PyProof.Rows L2
section
variable {X : Cx} {pins : List (Addr × Obj)} {σ : L2.St} {H : Hp} {s : Shared} {a C dx : Addr} {f : Str} {y : V} {u : Value}
  {E : Value → Shared → Prop} {A : Around}
/-- self.f = y on an error that is being made and has no dict -/
theorem lx_field {Q : Unit → Shared → Prop} (T : LxC X.K C) (I : L2.Inv X pins σ H s) (e : H a = some (exo a C none))
    (no : PySem.W.findIn X.K (.ref C) f = some none) (ry : RelV y u)
    (k : ∀ dx s', H dx = none → dx ≠ a →
      L2.Inv X pins σ (upd (upd H dx (exd dx [(f, y)])) a (exo a C (some dx))) s' → Q () s') :
    wpAny (model X.prog X.w) A (setAttr (.ref a) f u) Q E s := by
  obtain ⟨nm, qn, N, bs, sn, sub, ab, col, dd, v0, v1, v2, v3, v5, hC⟩ := T.obj
  have cl : PySem.W.clsIn X.K C = some { name := nm, bases := bs, mro := .ref C :: leM, ns := N, qualname := qn, hasDict := true, slotNames := sn, subclasses := sub, abstract := ab, collection := col, hasDel := false } := by
    unfold PySem.W.clsIn
    rw [hC] <;> rfl
  obtain ⟨t1, ho⟩ := exo_at I.hok e
  obtain ⟨hp, g, d, t, os⟩ := s
  have J0 : PySem.W.InstAt hp a { cls := .ref C, dict := none, data := .fields #[.ref t1, .none, .none, .none, .bool false, .none] } C none := ⟨ho, rfl, rfl, trivial⟩
  refine PySem.W.set_plain I.kIn J0 T.sa (le_store I.kIn ho cl no fun h' t' dx kp fresh ne hx hn => ?_)
  have n0 : H dx = none := I.hok.fresh fresh
  have old : ∀ {b : Addr} {o : Obj}, hp.get? b = some o → b ≠ dx := fun {b o} q =>
    Nat.ne_of_lt (Nat.lt_of_lt_of_le (Heap.lt_size q) fresh)
  have off : ∀ {b : Addr}, H b = none → b ≠ a := fun {b} n z => by
    rw [z, e] at n
    cases n
  have unch : ∀ {b : Addr} {o : HO}, H b = some o → b ≠ a → upd (upd H dx (exd dx [(f, y)])) a (exo a C (some dx)) b = some o := fun {b o} q nb => by
    rw [upd_ne nb, upd_ne (ne_of_none q n0)]
    exact q
  have un : Un X.fs [] H (upd (upd H dx (exd dx [(f, y)])) a (exo a C (some dx))) hp h' :=
    { keep := fun b o q n _ _ => kp b o (off n) q
      slot := fun b o q n _ _ => ⟨o.slots, kp b o (off n) q⟩
      free := fun b o q n _ => by
        rw [upd_ne (off n), upd_ne (old q)]
        exact n
      there := fun b o q _ => if hb : b = a then ⟨_, hb ▸ hx⟩ else ⟨o, kp b o hb q⟩
      tups := fun b xs q => unch q (at_ne e q exo_tup)
      frzs := fun b o v q => unch q (at_ne e q exo_frz)
      tbls := fun b ps q => ⟨#[], by
        rw [unch q (at_ne e q exo_tbl)]
        simp⟩ }
  refine k dx _ n0 ne (I.un (t' := t') un fun b o q => ?_)
  by_cases hb : b = a
  · subst hb
    rw [upd_same] at q
    cases q
    exact exo_ok hx
  · rw [upd_ne hb] at q
    by_cases hd : b = dx
    · subst hd
      rw [upd_same] at q
      cases q
      exact exd_ok hn (relO_put (fs := []) ry fun g => True.intro)
    · rw [upd_ne hd] at q
      refine (I.hok b o q).stay (fun c v hc z => kp c v ?_ z) (fun c hc => unch hc (at_ne e hc exo_own)) fun c xs hc => unch hc (at_ne e hc exo_tup)
      rcases hc with hc | hc
      · rw [hc]
        exact hb
      · exact at_ne e hc exo_own
/-- LookupError.__init__(self, ..) -/
theorem lx_base {us : List Value} {Q : Value → Shared → Prop} (T : LxC X.K C) (I : L2.Inv X pins σ H s) (e : H a = some (exo a C none))
    (hl : us.length ≤ sizeLine) (k : ∀ s', L2.Inv X pins σ H s' → Q .none s') :
    wpAny (model X.prog X.w) A (call (.builtin "LookupError.__init__") (.ref a :: us)) Q E s := by
  obtain ⟨nm, qn, N, bs, sn, sub, ab, col, dd, v0, v1, v2, v3, v5, hC⟩ := T.obj
  obtain ⟨t1, ho⟩ := exo_at I.hok e
  obtain ⟨hp, g, d, t, os⟩ := s
  refine wpAny_call (PySem.HandSPX.init_base PySem.F.excBase_LookupError leHas (I.kIn _ _ hC) ho hl fun h' t2 kp hx => ?_)
  have mu : Mut (H a) := by
    rw [e]
    exact True.intro
  have J := I.write (t' := t) (x := a) (e := a) (o := exo a C none) mu (.inl rfl) kp ⟨_, hx⟩ (exo_ok hx)
  have same : upd H a (exo a C none) = H := funext fun b => if hb : b = a then by rw [hb, upd_same, e] else upd_ne hb
  rw [same] at J
  exact k _ J
end
/-! the readings -/
def tLxI (K : PySem.W.Frag) (ta : TA) : TE := fun σ H Q => ta σ H fun vs H1 =>
  ∃ (a C : Addr) (ws : List V), vs = .ref a :: ws ∧ ws.length ≤ 1000 ∧ LxC K C ∧ H1 a = some (exo a C none) ∧ Q .non H1
def tLxF (K : PySem.W.Frag) (f : Str) (to te : TE) : TS := fun D σ H => te σ H fun y H1 => to σ H1 fun x H2 =>
  ∃ a C : Addr, x = .ref a ∧ LxC K C ∧ PySem.W.findIn K (.ref C) f = some none ∧ H2 a = some (exo a C none) ∧
    ∀ dx, H2 dx = none → dx ≠ a → D.nx σ (upd (upd H2 dx (exd dx [(f, y)])) a (exo a C (some dx)))
section
variable {X : Cx} {o e : Expr} {es : List Expr} {to te : TE} {ta : TA} {f : Str} {p p' p1 p2 pos : Pos}
theorem pe_lxInit {pl : Sem Bool} (hg : Gl X "LookupError") (hm : X.mg "LookupError" = none)
    (vV : PySem.W.findCls X.K (.type "LookupError") (.type "type") "__init__" = some (.val (.builtin "LookupError.__init__")))
    (hv : bootBuiltins "LookupError" = some (.type "LookupError")) (ha : PA X (e :: es) ta)
    (hc : eval (.Call (.Attribute (.Name "LookupError" p1) "__init__" p2) (e :: es) [] pos) X.env = (do
      let ov ← eval (.Name "LookupError" p1) X.env
      standAt p2.atName
      let (f, first) ← holding [ov] (getMethod ov "__init__" pl)
      callWith pos f first (backTo pos (starEach (e :: es) X.env)) (backToKw pos (keywordEach [] X.env))) := by rfl)
    (he : starEach (e :: es) X.env = (false, eval e X.env) :: starEach es X.env := by rfl)
    (hpl : (backTo pos (starEach es X.env)).any (·.1) = false := by rfl) :
    PE X (.Call (.Attribute (.Name "LookupError" p1) "__init__" p2) (e :: es) [] pos) (tLxI X.K ta) := by
  refine ⟨fun pins s σ H Q I h => PySem.W.methodCall_KW (ld_blt I hg hm hv ?_ (by decide) (by decide)) hc⟩
  obtain ⟨m, fr⟩ := I.fr
  refine PySem.W.method_type fr I.ok.mod.kin leTy (by decide +kernel) vV (by decide +kernel) ?_
  show wpAny _ _ (callWith pos (Value.builtin "LookupError.__init__") [] (backTo pos (starEach (e :: es) X.env)) []) _ _ _
  refine PyProof.Rows.callWith_method1 (thn (ha.run pos pins _ σ H _ (I.tok _) h) fun us s1 hh => ?_) he hpl
  obtain ⟨vs, H1, I1, r1, a, C, ws, ev, hl, T, ea, q⟩ := hh
  subst ev
  cases r1 with
  | @cons _ u0 _ ur ra rr =>
    obtain rfl : u0 = Value.ref a := ra
    refine lx_base T I1 ea ?_ fun s' J => ⟨.non, H1, J, rfl, q⟩
    rw [← Paired.length rr, sizeLine_eq]
    omega
theorem ps_lxF (ho : PE X o to) (he : PE X e te) (hs : swapsWith e (some (.Attribute o f p')) pos.line X.env = pure false := by rfl) :
    PS X (.Assign [.Attribute o f p'] e pos) (tLxF X.K f to te) := by
  refine ⟨fun pins s σ H D I h => plainObj_wpAny_Assign_Attribute (thn (he.run pins s σ H _ I h) fun v s1 hh => ?_) hs⟩
  obtain ⟨y, H1, I1, r1, q1⟩ := hh
  refine thn (ho.run pins s1 σ H1 _ I1 q1) fun u s2 hh => ?_
  obtain ⟨x, H2, I2, r2, a, C, ex, T, no, ea, q⟩ := hh
  subst ex
  obtain rfl : u = Value.ref a := r2
  exact lx_field T I2 ea no r1 fun dx s' n ne J => ⟨σ, _, J, q dx n ne⟩
/-- C(e, ..), C's own __init__ keeping sp -/
theorem pmk_lx {ds : List Value} {dvs : List V} {CX : CXT} {x : Str} {C fI : Addr} {k : Nat} {fd : FuncData} {ps : List Str} {sp : Sp}
    (T : LxC X.K C) (iC : PySem.W.findIn X.K (.ref C) "__init__" = some (some (.ref fI))) (tI : PySem.W.typeIn X.K (.ref fI) = some (.type "function"))
    (F1 : FnOk X.prog X.w X.K X.mg X.base CX k fI fd ps sp) (hr : Room (k + 1) X.A) (hb : L2.Binds X.K fd ps ds) (hd : Vals dvs ds)
    (hx : Passes CX X (fun _ _ _ => False)) (hg : Gl X x) (hm : X.mg x = some (.ref C)) (ha : PA X (e :: es) ta)
    (hdb : (x == ("__debug__" : Str)) = false := by decide)
    (he : starEach (e :: es) X.env = (false, eval e X.env) :: starEach es X.env := by rfl)
    (hpl : (backTo pos (starEach es X.env)).any (·.1) = false := by rfl) : PMk X (.Call (.Name x p) (e :: es) [] pos) (tMkO C sp dvs ta) := by
  intro pins s σ H Q I h
  obtain ⟨nm, qn, N, bs, sn, sub, ab, col, dd, v0, v1, v2, v3, v5, hC⟩ := T.obj
  refine wpAny_Call_Name_kw (ld_glob I hg hm ?_ hdb)
  refine PySem.W.callWith_K (h₀ := X.base) I.ok.mod.kin T.keep (thn (ha.run pos pins s σ H _ I h) fun us s1 hh => ?_) he hpl
  obtain ⟨vs, H1, I1, r1, hz, q1⟩ := hh
  refine ⟨I1.kIn, ?_⟩
  show wpAny _ _ (call (.ref C) us) _ _ _
  obtain ⟨hp, g, dr, tk, os⟩ := s1
  have up : hp.objs.size ≤ hp.objs.size + 1 := Nat.le_succ _
  have hq := q1 (hp.objs.size + 1) (I1.hok.fresh up)
  let hp2 := (hp.push (PySem.W.kdv_tup us)).push (PySem.HandSPX.excO C hp.objs.size)
  have kp : ∀ b o, hp.get? b = some o → hp2.get? b = some o := fun b o q => Heap.get?_push_of_some _ (Heap.get?_push_of_some _ q)
  have there : hp2.get? (hp.objs.size + 1) = some (PySem.HandSPX.excO C hp.objs.size) := by
    show ((hp.push (PySem.W.kdv_tup us)).push (PySem.HandSPX.excO C hp.objs.size)).get? (hp.objs.size + 1) = _
    heap_get
  have I2 : L2.Inv X pins σ (upd H1 (hp.objs.size + 1) (exo (hp.objs.size + 1) C none)) ⟨hp2, g, dr, tk, os⟩ :=
    I1.laid (t' := tk) kp up (exo_ok there)
  have r2 := Paired.cons (F := RelV) (a := V.ref (hp.objs.size + 1)) (b := Value.ref (hp.objs.size + 1)) rfl (r1.append hd)
  have len : (Value.ref (hp.objs.size + 1) :: us ++ ds).length = ps.length := by
    have z := Paired.length r2
    rw [F1.len _ _ _ _ hq] at z
    exact z.symm
  have fit : us.length ≤ sizeLine := by
    rw [← Paired.length r1, sizeLine_eq]
    omega
  refine wpAny_call (PySem.HandSPX.call_own PySem.F.excBase_LookupError leHas (I1.kIn _ _ hC) (PySem.W.looks_findIn I1.kIn iC)
    (fun self => PySem.W.bind_fn I1.kIn self tI) fit ?_)
  refine codeAny_mono (F1.run _ X.stack _ _ ⟨Value.ref (hp.objs.size + 1) :: us, []⟩ (Value.ref (hp.objs.size + 1) :: (us ++ ds)) _ _
    (fun _ _ _ => False) (hr.make C us []) (I2.env0.make C us []) (hb _ (Value.ref (hp.objs.size + 1) :: us) I2.kIn len) r2 hq) fun r s' z => ?_
  cases r with
  | error er => exact hx pins σ _ _ er s' I2 z
  | ok fl =>
    cases fl with
    | next => exact False.elim z
    | brk => exact False.elim z
    | cont => exact False.elim z
    | ret u =>
      obtain ⟨v, H2, os2, bare2, un2, hok2, rv, ev, d, fs, ea, ed, hd1, q2⟩ := z
      subst ev
      obtain ⟨h2, g2, d2, t2, os'⟩ := s'
      exact ⟨rv, mk_end (raises_own T.isE T.ty) I1 up kp un2 hok2 os2 bare2 ea ed hd1 q2⟩
end
end Ph

namespace Ph
open PySem PySem.Spec PyProof.Rows L2
section
variable {K : PySem.W.Frag} {o : List Addr} {ds : List (Option PyData)} {ta tb te : TE} {d e : PyData}
/-! more built-ins -/
def rInt : List V → Hp → VK → Prop := fun xs H Q => (∃ i, xs = [.int i] ∧ Q (.int i) H) ∨ ∃ k, xs = [.bl k] ∧ Q (.int (if k then 1 else 0)) H
theorem cb_int {i : Int} : CbD K o rInt [.int i] (.int i) := fun xs H W h Q q => by
  cases h with
  | cons h t =>
    cases t
    rw [dd_int h]
    exact .inl ⟨i, rfl, q _ H (Same.refl H) W (.int _)⟩
theorem cb_intB {b : Bool} : CbD K o rInt [.bool b] (.int (if b then 1 else 0)) := fun xs H W h Q q => by
  cases h with
  | cons h t =>
    cases t
    rw [dd_bool h]
    exact .inr ⟨b, rfl, q _ H (Same.refl H) W (.int _)⟩
def rAbs : List V → Hp → VK → Prop := fun xs H Q => ∃ i, xs = [.int i] ∧ Q (.int (if i < 0 then -i else i)) H
theorem cb_abs {i : Int} : CbD K o rAbs [.int i] (.int (if i < 0 then -i else i)) := fun xs H W h Q q => by
  cases h with
  | cons h t =>
    cases t
    rw [dd_int h]
    exact ⟨i, rfl, q _ H (Same.refl H) W (.int _)⟩
/-! ### the source of draws, an object of its own at u -/
def Urn (H : Hp) (u : Addr) (n : Nat) : Prop := ∃ b c m : Int, H u = some (.lst [.int b, .int c, .int m]) ∧ 0 ≤ b ∧ 0 ≤ c ∧ c < 2 ^ 63 ∧ 0 ≤ m ∧ m ≤ n
theorem Urn.mono {H : Hp} {u : Addr} {n k : Nat} (h : Urn H u n) (l : n ≤ k) : Urn H u k := by
  obtain ⟨b, c, m, e, h1, h2, h3, h4, h5⟩ := h
  exact ⟨b, c, m, e, h1, h2, h3, h4, by omega⟩
theorem Urn.keep {H H' : Hp} {u : Addr} {n : Nat} (h : Urn H u n) (e : H' u = H u) : Urn H' u n := by
  obtain ⟨b, c, m, h0, r⟩ := h
  exact ⟨b, c, m, e.trans h0, r⟩
/-- all but u stands -/
def But (u : Addr) (H H' : Hp) : Prop := ∀ a x, a ≠ u → H a = some x → H' a = some x
/-- what a draw does: from n draws to one more, a number below low -/
def spTake : Sp := fun vs H Q _ => ∃ (u : Addr) (low : Int) (n : Nat), vs = [.ref u, .int low] ∧ Urn H u n ∧ n ≤ 100000 ∧ 1 ≤ low ∧ low ≤ 1000000 ∧
  ∀ (r : Int) (H' : Hp), 0 ≤ r → r < low → But u H H' → Urn H' u (n + 1) → Q (.int r) H'
/-- all data are numbers, truth values, texts: they stand in any heap -/
def flatD : Option PyData → Prop
  | none => True
  | some d => scalD d = true
theorem dd_flat {G G' : Hp} {v : V} {d : PyData} (h : DD K G v d) (s : scalD d = true) : DD K G' v d := by
  cases h with
  | non => exact .non
  | bl b => exact .bl b
  | int i => exact .int i
  | str x => exact .str x
  | lst _ _ => cases s
  | tup _ _ => cases s
  | dct _ _ => cases s
theorem en_flat {G G' : Hp} : ∀ {σ : List (Option V)} {ds : List (Option PyData)}, En K G σ ds → (∀ d ∈ ds, flatD d) → En K G' σ ds
  | _, _, .nil, _ => .nil
  | _, _, .no t, f => .no (en_flat t fun d m => f d (List.mem_cons_of_mem _ m))
  | _, _, .yes h t, f => .yes (dd_flat h (f _ List.mem_cons_self)) (en_flat t fun d m => f d (List.mem_cons_of_mem _ m))
end
end Ph
namespace Ph
open PySem PySem.Spec PyProof.Rows L2
section
variable {K : PySem.W.Frag} {o : List Addr} {ds : List (Option PyData)} {ta tb te ti : TE} {d e : PyData}
/-- x[i] = e, x the list at u -/
theorem st_item {D : Ends} {σ : L2.St} {H : Hp} {iu j : Nat} {u : Addr} {xs : List V} {i : Int} (hu : σ[iu]? = some (some (.ref u))) (he : EvD K o te ds e) (hi : EvD K o ti ds (.int i)) (E : En K (hide H o) σ ds) (W : Owned H o)
    (hx : H u = some (.lst xs)) (hj : ixN xs.length i = some j) (k : ∀ v H1, Ex H H1 → Owned H1 o → DD K (hide H1 o) v e → D.nx σ (upd H1 u (.lst (xs.set j v)))) : tAsg te (gSub (tVar iu) ti rSetL) D σ H :=
  he σ H E W _ fun v H1 e1 W1 x => ⟨.ref u, hu, hi σ H1 (E.mono (ex_hide e1)) W1 _ fun z H2 e2 W2 y => ⟨u, xs, i, j, rfl, dd_int y, e2 _ _ (e1 _ _ hx), hj, k v H2 (e1.trans e2) W2 (x.mono (ex_hide e2))⟩⟩
end
theorem own0 {H : Hp} : Owned H [] := fun a h => by cases h
theorem en0 {K : PySem.W.Frag} {H : Hp} {σ : L2.St} {ds : List (Option PyData)} (h : En K H σ ds) : En K (hide H []) σ ds := by
  rw [hide_nil]
  exact h
end Ph
namespace Ph
open PySem PySem.Spec PyProof.Rows L2
section
variable {K : PySem.W.Frag} {o : List Addr} {i j : Int}
theorem od_mod (h : 0 < j) : OpD K o (rI (fun _ j => 0 < j) fun i j => .int (i % j)) (.int i) (.int j) (.int (i % j)) := od_I h fun _ => .int _
theorem od_mul (h : CMul i j) : OpD K o (rI CMul fun i j => .int (i * j)) (.int i) (.int j) (.int (i * j)) := od_I h fun _ => .int _
theorem od_div (h : CDiv i j) : OpD K o (rI CDiv fun i j => .int (i / j)) (.int i) (.int j) (.int (i / j)) := od_I h fun _ => .int _
theorem od_divW (h : CDivW i j) : OpD K o (rI CDivW fun i j => .int (i / j)) (.int i) (.int j) (.int (i / j)) := od_I h fun _ => .int _
theorem od_pow (h : CPow i j) : OpD K o (rI CPow fun i j => .int (i ^ j.toNat)) (.int i) (.int j) (.int (i ^ j.toNat)) := od_I h fun _ => .int _
end
end Ph
namespace Ph
open PySem PySem.Spec PyProof.Rows L2
section
variable {K : PySem.W.Frag} {o : List Addr} {ds : List (Option PyData)} {te : TE} {d e : PyData} {D : Ends} {σ : L2.St} {H : Hp}
theorem st_set {i : Nat} (E : En K (hide H o) σ ds) (W : Owned H o) (h : EvD K o te ds e) (k : ∀ v H2, Ex H H2 → Owned H2 o → DD K (hide H2 o) v e → D.nx (σ.set i (some v)) H2) : tAsg te (gName i) D σ H := h σ H E W _ k
theorem ss_set {i : Nat} {u : TS} (E : En K (hide H o) σ ds) (W : Owned H o) (h : EvD K o te ds e) (k : ∀ v H2, Ex H H2 → Owned H2 o → DD K (hide H2 o) v e → u D (σ.set i (some v)) H2) : tSeq (tAsg te (gName i)) u D σ H := h σ H E W _ k
theorem ss_if {c : TT} {t t2 u : TS} {b : Bool} (E : En K (hide H o) σ ds) (W : Owned H o) (h : EvB K o c ds b) (k : ∀ H2, Ex H H2 → Owned H2 o → if b = true then t { D with nx := u D } σ H2 else t2 { D with nx := u D } σ H2) : tSeq (tIfS c t t2) u D σ H := h σ H E W _ k
theorem ss_item {u : TS} {ti : TE} {iu j : Nat} {p : Addr} {xs : List V} {i : Int} (E : En K (hide H o) σ ds) (W : Owned H o) (he : EvD K o te ds e) (hi : EvD K o ti ds (.int i)) (hu : σ[iu]? = some (some (.ref p)))
    (hx : H p = some (.lst xs)) (hj : ixN xs.length i = some j) (k : ∀ v H1, Ex H H1 → Owned H1 o → DD K (hide H1 o) v e → u D σ (upd H1 p (.lst (xs.set j v)))) : tSeq (tAsg te (gSub (tVar iu) ti rSetL)) u D σ H :=
  st_item (D := { D with nx := u D }) hu he hi E W hx hj k
theorem st_ret (E : En K (hide H o) σ ds) (W : Owned H o) (h : EvD K o te ds e) (k : ∀ v H2, Ex H H2 → Owned H2 o → DD K (hide H2 o) v e → D.rt v H2) : tRet te D σ H := h σ H E W _ k
theorem st_if {c : TT} {t u : TS} {b : Bool} (E : En K (hide H o) σ ds) (W : Owned H o) (h : EvB K o c ds b) (k : ∀ H2, Ex H H2 → Owned H2 o → if b = true then t D σ H2 else u D σ H2) : tIfS c t u D σ H := h σ H E W _ k
end
end Ph

namespace Ph
open PySem PySem.Spec PyProof.Rows L2

/-- a def that draws: pre of its data, R what may come, k draws at most; the source is its first argument -/
def spU (K : PySem.W.Frag) (m k : Nat) (pre : List PyData → Prop) (R : List PyData → PyData → Prop) : Sp := fun vs H Q _ => ∃ (u : Addr) (n : Nat) (us : List V) (as : List PyData),
  vs = .ref u :: us ∧ Urn H u n ∧ n + k ≤ 100000 ∧ DDs K (hide H [u]) us as ∧ as.length = m ∧ pre as ∧
    ∀ v d H', R as d → Ex (hide H [u]) (hide H' [u]) → Urn H' u (n + k) → DD K (hide H' [u]) v d → Q v H'
theorem urn_own {H : Hp} {u : Addr} {n : Nat} (h : Urn H u n) : Owned H [u] := fun a ha => by
  have e : a = u := by simpa using ha
  obtain ⟨b, c, m, h0, _⟩ := h
  exact ⟨.lst [.int b, .int c, .int m], by rw [e]; exact h0, True.intro⟩
/-- behind some draws, the objects put aside being as they were but for the source -/
structure Dr (H H2 : Hp) (o : List Addr) (u : Addr) (n2 : Nat) : Prop where
  ex : Ex (hide H o) (hide H2 o)
  ow : Owned H2 o
  same : ∀ a ∈ o, a ≠ u → H2 a = H a
  urn : Urn H2 u n2
theorem Dr.trans {H H1 H2 : Hp} {o : List Addr} {u : Addr} {n1 n2 : Nat} (a : Dr H H1 o u n1) (b : Dr H1 H2 o u n2) : Dr H H2 o u n2 :=
  ⟨a.ex.trans b.ex, b.ow, fun c m ne => (b.same c m ne).trans (a.same c m ne), b.urn⟩
theorem Dr.up {H H1 : Hp} {o : List Addr} {u : Addr} {n1 n2 : Nat} (a : Dr H H1 o u n1) (l : n1 ≤ n2) : Dr H H1 o u n2 := ⟨a.ex, a.ow, a.same, a.urn.mono l⟩
theorem Dr.of {H H1 : Hp} {o : List Addr} {u : Addr} {n : Nat} (e : Ex H H1) (W : Owned H o) (U : Urn H u n) : Dr H H1 o u n :=
  ⟨ex_hide e, ow_mono W e, fun a m _ => by
    obtain ⟨x, h, _⟩ := W a m
    rw [h, e _ _ h], by
    obtain ⟨b, c, m, h, r⟩ := U
    exact ⟨b, c, m, e _ _ h, r⟩⟩
/-- where the draws stand: the source is put aside, its name is in slot iu -/
structure At (H : Hp) (o : List Addr) (u : Addr) (iu : Nat) (σ : L2.St) (n : Nat) : Prop where
  mem : u ∈ o
  slot : σ[iu]? = some (some (.ref u))
  urn : Urn H u n
def EvU (K : PySem.W.Frag) (o : List Addr) (u : Addr) (iu : Nat) (te : TE) (ds : List (Option PyData)) (k : Nat) (R : PyData → Prop) : Prop :=
  ∀ σ H n, En K (hide H o) σ ds → Owned H o → At H o u iu σ n → n + k ≤ 100000 → ∀ Q : VK, (∀ v d H2, R d → Dr H H2 o u (n + k) → DD K (hide H2 o) v d → Q v H2) → te σ H Q
def EvAU (K : PySem.W.Frag) (o : List Addr) (u : Addr) (iu : Nat) (ta : TA) (ds : List (Option PyData)) (k : Nat) (R : List PyData → Prop) : Prop :=
  ∀ σ H n, En K (hide H o) σ ds → Owned H o → At H o u iu σ n → n + k ≤ 100000 → ∀ Q : List V → Hp → Prop, (∀ vs es H2, R es → Dr H H2 o u (n + k) → DDs K (hide H2 o) vs es → Q vs H2) → ta σ H Q
section
variable {K : PySem.W.Frag} {o : List Addr} {u : Addr} {iu : Nat} {ds : List (Option PyData)} {ta tb te : TE} {d e : PyData} {R P : PyData → Prop} {k j : Nat}
theorem At.next {H H2 : Hp} {σ : L2.St} {n n2 : Nat} (a : At H o u iu σ n) (d : Dr H H2 o u n2) : At H2 o u iu σ n2 := ⟨a.mem, a.slot, d.urn⟩
theorem eu_pure (h : EvD K o te ds d) : EvU K o u iu te ds 0 (fun x => x = d) := fun σ H n E W A hn Q q =>
  h σ H E W Q fun v H2 e2 W2 x => q v d H2 rfl (Dr.of e2 W A.urn) x
theorem eu_imp (h : EvU K o u iu te ds k R) (i : ∀ d, R d → P d) : EvU K o u iu te ds k P := fun σ H n E W A hn Q q => h σ H n E W A hn Q fun v d H2 r D x => q v d H2 (i d r) D x
theorem eu_more (h : EvU K o u iu te ds j R) (l : j ≤ k) : EvU K o u iu te ds k R := fun σ H n E W A hn Q q =>
  h σ H n E W A (by omega) Q fun v d H2 r D x => q v d H2 r (D.up (by omega)) x
theorem eau_nil : EvAU K o u iu tNil ds 0 (fun es => es = []) := fun σ H n E W A hn Q q => q [] [] H rfl (Dr.of (Same.refl H) W A.urn) .nil
theorem eau_cons {t : TA} {S : List PyData → Prop} (h : EvU K o u iu ta ds k R) (h2 : EvAU K o u iu t ds j S) : EvAU K o u iu (tCons ta t) ds (k + j) (fun es => ∃ d r, es = d :: r ∧ R d ∧ S r) := fun σ H n E W A hn Q q =>
  h σ H n E W A (by omega) _ fun v d H1 r D1 x => h2 σ H1 (n + k) (E.mono D1.ex) D1.ow (A.next D1) (by omega) _ fun vs es H2 s D2 xs =>
    q (v :: vs) (d :: es) H2 ⟨d, es, rfl, r, s⟩ (by rw [← Nat.add_assoc]; exact D1.trans D2) (.cons (x.mono D2.ex) xs)
theorem eu_tup {t : TA} {S : List PyData → Prop} (h : EvAU K o u iu t ds k S) (hl : ∀ es, S es → es.length ≤ sizeLine) : EvU K o u iu (tTup t) ds k (fun d => ∃ es, d = .tuple es ∧ S es) := fun σ H n E W A hn Q q =>
  h σ H n E W A hn _ fun vs es H1 s D1 xs => ⟨by rw [xs.length]; exact hl es s, fun p hp =>
    q _ (.tuple es) _ ⟨es, rfl, s⟩ (D1.trans (Dr.of (ex_new hp) D1.ow D1.urn)) (.tup (SqT.of (hide_new D1.ow hp)) (xs.mono (ex_hide (ex_new hp))))⟩
theorem eu_op {r : R2} {R1 R2' : PyData → Prop} {R : PyData → Prop} (h1 : EvU K o u iu ta ds k R1) (h2 : EvU K o u iu tb ds j R2') (hr : ∀ a b, R1 a → R2' b → ∃ d, R d ∧ OpD K o r a b d) : EvU K o u iu (tOp r ta tb) ds (k + j) R := fun σ H n E W A hn Q q =>
  h1 σ H n E W A (by omega) _ fun v a H1 r1 D1 x => h2 σ H1 (n + k) (E.mono D1.ex) D1.ow (A.next D1) (by omega) _ fun w b H2 r2 D2 y => by
    obtain ⟨d, rd, op⟩ := hr a b r1 r2
    exact op v w H2 D2.ow (x.mono D2.ex) y Q fun z H3 e3 W3 c => q z d H3 rd (by rw [← Nat.add_assoc]; exact D1.trans (D2.trans (Dr.of e3 D2.ow D2.urn))) c
theorem eu_cb {r : List V → Hp → VK → Prop} {t : TA} {S : List PyData → Prop} {R : PyData → Prop} (h : EvAU K o u iu t ds k S) (hr : ∀ es, S es → ∃ d, R d ∧ CbD K o r es d) : EvU K o u iu (tCB r t) ds k R := fun σ H n E W A hn Q q =>
  h σ H n E W A hn _ fun vs es H1 s D1 xs => by
    obtain ⟨d, rd, c⟩ := hr es s
    exact c vs H1 D1.ow xs Q fun v H2 e2 W2 y => q v d H2 rd (D1.trans (Dr.of e2 D1.ow D1.urn)) y
/-! a call of a def that draws -/
def less (o : List Addr) (u : Addr) : List Addr := o.filter fun a => decide (a ≠ u)
theorem mem_less {a : Addr} : a ∈ less o u ↔ a ∈ o ∧ a ≠ u := by
  unfold less
  rw [List.mem_filter, decide_eq_true_eq]
theorem hide_less {H : Hp} (m : u ∈ o) : hide (hide H (less o u)) [u] = hide H o := by
  funext a
  by_cases c : a ∈ o
  · rw [hide_in c]
    by_cases e : a = u
    · exact hide_in (by simp [e])
    · rw [hide_out (by simp [e]), hide_in (mem_less.mpr ⟨c, e⟩)]
  · have c2 : a ∉ less o u := fun z => c (mem_less.mp z).1
    have c3 : a ∉ [u] := fun z => c (by rw [show a = u by simpa using z]; exact m)
    rw [hide_out c, hide_out c3, hide_out c2]
theorem eu_call {m : Nat} {pre : List PyData → Prop} {Rf : List PyData → PyData → Prop} {E : XK} {t : TA} {as : List PyData} (h : EvA K o t ds as) (hm : as.length = m) (hp : pre as) :
    EvU K o u iu (tCall (spHide (spU K m k pre Rf)) [] E (tCons (tVar iu) t)) ds k (Rf as) := fun σ H n En W A hn Q q => by
  refine ⟨.ref u, A.slot, ?_⟩
  refine h σ H En W _ fun vs H1 e1 W1 xs => ?_
  show spHide (spU K m k pre Rf) ((.ref u :: vs) ++ []) H1 Q E
  rw [List.append_nil]
  have D0 := Dr.of e1 W A.urn
  have W2 : Owned H1 (less o u) := fun a ha => W1 a (mem_less.mp ha).1
  have nu : u ∉ less o u := fun z => (mem_less.mp z).2 rfl
  have U2 : Urn (hide H1 (less o u)) u n := D0.urn.keep (hide_out nu)
  refine ⟨less o u, W2, u, n, vs, as, rfl, U2, hn, by rw [hide_less A.mem]; exact xs, hm, hp, fun v d G r ex U3 x g => ?_⟩
  rw [hide_less A.mem] at ex
  -- the heap behind: back H1 (less o u) G
  have eq : hide (back H1 (less o u) G) o = hide G [u] := by
    funext a
    by_cases c : a ∈ o
    · rw [hide_in c]
      by_cases e : a = u
      · exact (hide_in (by simp [e])).symm
      · rw [hide_out (by simp [e]), g a (mem_less.mpr ⟨c, e⟩)]
    · have c2 : a ∉ less o u := fun z => c (mem_less.mp z).1
      have c3 : a ∉ [u] := fun z => c (by rw [show a = u by simpa using z]; exact A.mem)
      rw [hide_out c, hide_out c3, back_out c2]
  have D1 : Dr H1 (back H1 (less o u) G) o u (n + k) := by
    refine ⟨by rw [eq]; exact ex, fun a ha => ?_, fun a ha ne => back_in (mem_less.mpr ⟨ha, ne⟩), U3.keep (back_out nu)⟩
    by_cases e : a = u
    · obtain ⟨b, c, m', h0, _⟩ := U3
      exact ⟨.lst [.int b, .int c, .int m'], by rw [e, back_out nu]; exact h0, True.intro⟩
    · rw [back_in (mem_less.mpr ⟨ha, e⟩)]
      exact W1 a ha
  exact q v d _ r (D0.trans D1) (by rw [eq]; exact x)
end
end Ph

namespace Ph
open PySem PySem.Spec PyProof.Rows L2
section
variable {K : PySem.W.Frag} {o : List Addr} {u : Addr} {iu : Nat} {ds : List (Option PyData)} {ta tb te : TE} {d e : PyData} {R P : PyData → Prop} {k j : Nat}
theorem wipe_get {σ : L2.St} {i : Nat} : ∀ {vs : List Nat}, i ∉ vs → (L2.wipe σ vs)[i]? = σ[i]?
  | [], _ => rfl
  | v :: vs, h => by
    have h1 : v ≠ i := fun e => h (by rw [e]; exact List.mem_cons_self)
    have h2 : i ∉ vs := fun e => h (List.mem_cons_of_mem _ e)
    show ((L2.wipe σ vs).set v none)[i]? = σ[i]?
    rw [List.getElem?_set_ne h1, wipe_get h2]
/-- a target that sets slots of vs alone -/
def GsD (K : PySem.W.Frag) (vs : List Nat) (g : TG) (ds : List (Option PyData)) (e : PyData) (ds' : List (Option PyData)) : Prop :=
  ∀ x σ H o, DD K (hide H o) x e → En K (hide H o) σ ds → ∀ Q : L2.St → Hp → Prop, (∀ σ', L2.wipe σ' vs = L2.wipe σ vs → En K (hide H o) σ' ds' → Q σ' H) → g x σ H Q
theorem gs_name {i : Nat} {vs : List Nat} (h : i ∈ vs) : GsD K vs (gName i) ds e (ds.set i (some e)) := fun x σ H o hx E Q q => q _ (wipe_set h) (E.set hx i)
theorem gs_two {i l : Nat} {vs : List Nat} {a b : PyData} (h : i ∈ vs) (h' : l ∈ vs) : GsD K vs (gTup K 2 (gCons (gName i) (gCons (gName l) gNil))) ds (.tuple [a, b]) ((ds.set i (some a)).set l (some b)) := fun x σ H o hx E Q q => by
  obtain ⟨p, xs, rfl, hq, t⟩ := dd_tup hx
  cases t with
  | cons h1 t =>
    cases t with
    | cons h2 t =>
      cases t
      exact ⟨p, _, rfl, ex_sqT hide_ex hq, rfl, _, _, rfl, _, _, rfl, rfl, q _ (by rw [wipe_set h', wipe_set h]) ((E.set h1 i).set h2 l)⟩
def EiU (K : PySem.W.Frag) (o : List Addr) (u : Addr) (iu : Nat) (wi : TI) (ds : List (Option PyData)) (k : Nat) (S : List PyData → Prop) : Prop :=
  ∀ σ H n, En K (hide H o) σ ds → Owned H o → At H o u iu σ n → n + k ≤ 100000 → ∀ R : It → Hp → Prop, (∀ J H2 es, S es → Dr H H2 o u (n + k) → ItD K (hide H2 o) J es → R J H2) → wi σ H R
theorem eiu_pure {wi : TI} {es : List PyData} (h : EvI K o wi ds es) : EiU K o u iu wi ds 0 (fun x => x = es) := fun σ H n E W A hn R r =>
  h σ H E W R fun J H2 e2 W2 it => r J H2 es rfl (Dr.of e2 W A.urn) it
def rngD (N : Nat) : List PyData := (List.range N).map fun i => .int (0 + (i : Nat))
theorem eiu_rng {M : Nat} (h : EvU K o u iu ta ds k (fun d => ∃ N : Nat, N ≤ M ∧ d = .int N)) (hM : M ≤ 1000000) : EiU K o u iu (iRng1 (tCons ta tNil)) ds k (fun es => ∃ N : Nat, N ≤ M ∧ es = rngD N) := fun σ H n E W A hn R r =>
  h σ H n E W A hn _ fun v d H2 hd D x => by
    obtain ⟨N, hN, rfl⟩ := hd
    refine ⟨N, by rw [dd_int x], ?_, ?_, ?_⟩
    · have h1 : (0 : Int) ≤ (N : Int) := Int.natCast_nonneg _
      exact Int.le_trans (by decide) h1
    · exact Int.lt_of_le_of_lt (show (N : Int) ≤ 1000000 by omega) (by decide)
    · exact r _ H2 (rngD N) ⟨N, hN, rfl⟩ D (by rw [Int.toNat_natCast]; exact it_rng)
/-- [elt for target in iter], draws in both -/
theorem eu_lc {wi : TI} {g : TG} {vs : List Nat} {S : List PyData → Prop} (M : Nat) (ds' : PyData → List (Option PyData)) (hi : EiU K o u iu wi ds k S) (hS : ∀ es, S es → es.length ≤ M) (hM : M ≤ 1000000) (hv : iu ∉ vs)
    (hg : ∀ es, S es → ∀ e ∈ es, GsD K vs g (wipeD ds vs) e (ds' e)) (he : ∀ es, S es → ∀ e ∈ es, ∀ o, EvU K o u iu te (ds' e) j P) :
    EvU K o u iu (tLc wi g tYes te vs) ds (k + M * j) (fun d => ∃ es os, S es ∧ d = .list os ∧ os.length = es.length ∧ ∀ x ∈ os, P x) := fun σ H n E W A hn Q q =>
  hi σ H n E W A (by omega) _ fun J H1 es hs D1 it D nD => by
    have W1 := D1.ow
    have nDo : D ∉ o := ow_new W1 nD
    have nDu : D ≠ u := fun z => nDo (by rw [z]; exact A.mem)
    have hl := hS es hs
    have hG : ∀ {H' : Hp}, Ex (hide H1 o) (hide H' (D :: o)) → ∀ a x, a ∉ D :: o → H1 a = some x → H' a = some x := fun {H'} z a x m e => by
      have y := z a x (by rw [hide_out (fun t => m (List.mem_cons_of_mem _ t))]; exact e)
      rw [hide_out m] at y
      exact y
    refine ⟨fun i m H2 => m = es.length - i ∧ i ≤ es.length ∧ Ex (hide H1 o) (hide H2 (D :: o)) ∧ Owned H2 (D :: o) ∧ (∀ a ∈ o, a ≠ u → H2 a = H1 a) ∧ Urn H2 u (n + k + i * j) ∧ ∃ acc os, H2 D = some (.lst acc) ∧ DDs K (hide H2 (D :: o)) acc os ∧ os.length = i ∧ ∀ x ∈ os, P x, ⟨es.length, ?_⟩, fun i m H2 w => ?_⟩
    · refine ⟨rfl, Nat.zero_le _, fun a x e => ?_, fun a ha => ?_, fun a ha ne => ?_, ?_, [], [], upd_same, .nil, rfl, fun x hx => by cases hx⟩
      · obtain ⟨c, e⟩ := hide_some e
        have na : a ≠ D := ne_of_none e nD
        rw [hide_out (fun m => by rcases List.mem_cons.mp m with m | m; exact na m; exact c m), upd_ne na]
        exact e
      · rcases List.mem_cons.mp ha with rfl | ha
        · exact ⟨_, upd_same, True.intro⟩
        · exact ow_mono W1 (ex_new nD) a ha
      · exact upd_ne (fun z => nDo (by rw [← z]; exact ha))
      · exact (D1.urn.keep (upd_ne (Ne.symm nDu))).mono (by omega)
    · obtain ⟨rfl, hi2, G2, W2, sm2, U2, acc, os, hD, t, lo, hP⟩ := w
      by_cases cl : i < es.length
      · obtain ⟨e, he'⟩ : ∃ e, es[i]? = some e := ⟨_, List.getElem?_eq_getElem cl⟩
        have hm : e ∈ es := List.mem_of_getElem? he'
        obtain ⟨go, yl⟩ := (it H2 (D :: o) G2 W2 i).1 e he'
        have bud : n + k + i * j + j ≤ 100000 := by
          have z : i * j + j ≤ M * j := by
            have z2 : (i + 1) * j ≤ M * j := Nat.mul_le_mul_right j (by omega)
            rw [Nat.add_mul, Nat.one_mul] at z2
            exact z2
          omega
        refine .inr ⟨go, fun H3 => Ex (hide H1 o) (hide H3 (D :: o)) ∧ Owned H3 (D :: o) ∧ (∀ a ∈ o, a ≠ u → H3 a = H1 a) ∧ Urn H3 u (n + k + (i + 1) * j) ∧ ∃ acc os, H3 D = some (.lst acc) ∧ DDs K (hide H3 (D :: o)) acc os ∧ os.length = i + 1 ∧ ∀ x ∈ os, P x, fun H' z => ⟨es.length - (i + 1), by omega, rfl, cl, z⟩, fun x H' y => ?_⟩
        obtain ⟨ex3, hx⟩ := yl x H' y
        have W3 := ow_mono W2 ex3
        have E3 : En K (hide H' (D :: o)) (L2.wipe σ vs) (wipeD ds vs) := ((E.mono D1.ex).mono (G2.trans (ex_hide ex3))).wipe vs
        have ww : L2.wipe (L2.wipe σ vs) vs = L2.wipe σ vs := wipe_wipe fun v hv => hv
        have D3 := Dr.of (u := u) ex3 W2 U2
        refine (show g x (L2.wipe σ vs) H' _ from ?_)
        refine hg es hs e hm x (L2.wipe σ vs) H' (D :: o) hx E3 _ fun σ2 hσ E4 => ⟨hσ.trans ww, ?_⟩
        · unfold tYes
          dsimp only
          rw [if_pos rfl]
          have sl : σ2[iu]? = some (some (.ref u)) := by
            have z1 := wipe_get (σ := σ2) hv
            rw [hσ, ww, wipe_get hv] at z1
            exact z1.symm.trans A.slot
          refine he es hs e hm (D :: o) σ2 H' _ E4 W3 ⟨List.mem_cons_of_mem _ A.mem, sl, D3.urn⟩ bud _ fun y dy H5 hy D5 xy => ?_
          have hD5 : H5 D = some (.lst acc) := (D5.same D List.mem_cons_self nDu).trans (ex3 _ _ hD)
          have hh : hide (upd H5 D (.lst (acc ++ [y]))) (D :: o) = hide H5 (D :: o) := by
            funext a
            by_cases m : a ∈ D :: o
            · rw [hide_in m, hide_in m]
            · rw [hide_out m, hide_out m, upd_ne (fun z => m (by rw [z]; exact List.mem_cons_self))]
          refine ⟨acc, hD5, ?_, ?_, ?_, ?_, ?_, acc ++ [y], os ++ [dy], upd_same, ?_, by rw [List.length_append, lo]; rfl, fun x hx => ?_⟩
          · rw [t.length, lo]
            exact Nat.lt_of_lt_of_le cl (Nat.le_trans (Nat.le_trans hl hM) (by decide))
          · rw [hh]
            exact G2.trans ((ex_hide ex3).trans D5.ex)
          · intro a ha
            by_cases c : a = D
            · exact ⟨.lst (acc ++ [y]), by rw [c, upd_same], True.intro⟩
            · rw [upd_ne c]
              exact D5.ow a ha
          · intro a ha ne
            have c : a ≠ D := fun z => nDo (by rw [← z]; exact ha)
            rw [upd_ne c, D5.same a (List.mem_cons_of_mem _ ha) ne]
            obtain ⟨w, hw2, _⟩ := W2 a (List.mem_cons_of_mem _ ha)
            rw [ex3 _ _ hw2, ← hw2, sm2 a ha ne]
          · have z := D5.urn.keep (upd_ne (Ne.symm nDu) : (upd H5 D (.lst (acc ++ [y]))) u = H5 u)
            exact z.mono (by rw [Nat.add_mul, Nat.one_mul]; omega)
          · rw [hh]
            exact (t.mono ((ex_hide ex3).trans D5.ex)).append (.cons xy .nil)
          · rcases List.mem_append.mp hx with hx | hx
            · exact hP x hx
            · rw [show x = dy by simpa using hx]
              exact hy
      · have ei : i = es.length := by omega
        refine .inl ⟨(it H2 (D :: o) G2 W2 i).2 (by omega), ?_⟩
        have nouter : Ex (hide H2 (D :: o)) (hide H2 o) := fun a x z => by
          obtain ⟨c2, z⟩ := hide_some z
          rw [hide_out (fun m => c2 (List.mem_cons_of_mem _ m))]
          exact z
        refine q _ (.list os) H2 ⟨es, os, hs, rfl, by omega, hP⟩ ?_ (.lst (by rw [hide_out nDo]; exact hD) (t.mono nouter))
        refine D1.trans ⟨G2.trans nouter, fun a ha => W2 a (List.mem_cons_of_mem _ ha), sm2, U2.mono ?_⟩
        have z2 : i * j ≤ M * j := Nat.mul_le_mul_right j (by omega)
        omega
end
end Ph
namespace Ph
open PySem PySem.Spec PyProof.Rows L2
abbrev pre_take : List PyData → Prop := fun as => ∃ low : Int, as = [.int low] ∧ 1 ≤ low ∧ low ≤ 1000000
abbrev R_take : List PyData → PyData → Prop := fun as d => ∃ low r : Int, as = [.int low] ∧ d = .int r ∧ 0 ≤ r ∧ r < low
theorem take_U {P : Program} {w : World} {K : PySem.W.Frag} {mg : Str → Option Value} {base : Heap} {k : Nat} {f : Addr} {fd : FuncData} (F : FnOk P w K mg base CX0 k f fd ["urn", "low_so"] spTake) :
    FnOk P w K mg base CX0 k f fd ["urn", "low_so"] (spU K 1 1 pre_take R_take) := F.imp fun vs H Q E h => by
  obtain ⟨u, n, us, as, rfl, U, hn, t, hl, ⟨low, rfl, l1, l2⟩, q⟩ := h
  cases t with
  | cons h t =>
    cases t
    cases dd_int h
    refine ⟨u, low, n, rfl, U, by omega, l1, l2, fun r H' r0 r1 b U2 => q _ (.int r) H' ⟨low, r, rfl, rfl, r0, r1⟩ (fun a x e => ?_) U2 (.int r)⟩
    obtain ⟨c, e⟩ := hide_some e
    have ne : a ≠ u := fun z => c (by simp [z])
    rw [hide_out c]
    exact b a x ne e
/-- a new source: from cell number k of the list at a -/
def spBox : Sp := fun vs H Q _ => ∃ (a : Addr) (ns : List Int) (k : Nat), vs = [.ref a, .int k] ∧ H a = some (.lst (ns.map V.int)) ∧ k < ns.length ∧ k ≤ 1000 ∧ ∀ u H', Ex H H' → H u = none → Urn H' u 0 → Q (.ref u) H'
def spCells (K : PySem.W.Frag) : Sp := fun vs H Q _ => ∃ (a : Addr) (ns : List Int) (top : Int), vs = [.ref a, .int top] ∧ SqL K H a (ns.map V.int) ∧ ns.length ≤ 63 ∧ 1 ≤ top ∧ top ≤ 1000 ∧
  ∀ p H' ms, Ex H H' → H p = none → H' p = some (.lst ((ms : List Int).map V.int)) → 1 ≤ ms.length → (ms.length : Int) ≤ top → Q (.ref p) H'
abbrev pre_of : List PyData → Prop := fun as => ∃ es, as = [.list es] ∧ 1 ≤ es.length ∧ es.length ≤ 1000000
abbrev R_of : List PyData → PyData → Prop := fun as d => ∃ es, as = [.list es] ∧ d ∈ es
theorem mapGet {ns : List Int} {k : Nat} (h : k < ns.length) : (ns.map PyData.int)[k]? = some (.int ns[k]) := by
  rw [List.getElem?_map, List.getElem?_eq_getElem h]
  rfl
end Ph
namespace Ph
open PySem PySem.Spec PyProof.Rows L2
section
variable {K : PySem.W.Frag} {o : List Addr} {ds : List (Option PyData)} {ta : TA} {es : List PyData} {D : Ends} {σ : L2.St} {H : Hp}
theorem st_retNew (E : En K (hide H o) σ ds) (W : Owned H o) (h : EvA K o ta ds es) (hl : es.length ≤ sizeLine)
    (k : ∀ vs p H1 H2, Ex H H1 → H1 p = none → H2 = upd H1 p (.lst vs) → DDs K (hide H1 o) vs es → D.rt (.ref p) H2) : tRet (tLst ta) D σ H :=
  h σ H E W _ fun vs H1 e1 W1 xs => ⟨by rw [xs.length]; exact hl, fun p hp => k vs p H1 _ e1 hp rfl xs⟩
theorem ss_new {i : Nat} {u : TS} (E : En K (hide H o) σ ds) (W : Owned H o) (h : EvA K o ta ds es) (hl : es.length ≤ sizeLine)
    (k : ∀ vs p H1 H2, Ex H H1 → Owned H1 o → H1 p = none → H2 = upd H1 p (.lst vs) → DDs K (hide H1 o) vs es → u D (σ.set i (some (.ref p))) H2) : tSeq (tAsg (tLst ta) (gName i)) u D σ H :=
  h σ H E W _ fun vs H1 e1 W1 xs => ⟨by rw [xs.length]; exact hl, fun p hp => k vs p H1 _ e1 W1 hp rfl xs⟩
end
end Ph
namespace Ph
theorem b01 (b : Bool) : -(2 ^ 64) < (if b = true then (1 : Int) else 0) ∧ (if b = true then (1 : Int) else 0) < 2 ^ 64 := by cases b <;> decide
theorem b0 (b : Bool) : 0 ≤ (if b = true then (1 : Int) else 0) := by cases b <;> decide
end Ph

namespace Ph
open PySem PySem.Spec PyProof.Rows L2
/-- a block that returns, with draws -/
def SrU (K : PySem.W.Frag) (o : List Addr) (u : Addr) (iu : Nat) (ts : TS) (ds : List (Option PyData)) (k : Nat) (R : PyData → Prop) : Prop :=
  ∀ (D : Ends) σ H n, En K (hide H o) σ ds → Owned H o → At H o u iu σ n → n + k ≤ 100000 → (∀ v d H2, R d → Dr H H2 o u (n + k) → DD K (hide H2 o) v d → D.rt v H2) → ts D σ H
section
variable {K : PySem.W.Frag} {o : List Addr} {u : Addr} {iu : Nat} {ds : List (Option PyData)} {te : TE} {R S : PyData → Prop} {k j : Nat} {D : Ends} {σ : L2.St} {H : Hp} {n : Nat}
theorem su_ret (h : EvU K o u iu te ds k R) : SrU K o u iu (tRet te) ds k R := fun D σ H n E W A hn q => h σ H n E W A hn _ q
/-- x = e, then the rest -/
theorem su_set {i : Nat} {t : TS} {ds' : PyData → List (Option PyData)} (h : EvU K o u iu te ds k S) (ne : i ≠ iu) (hd : ∀ d, ds' d = ds.set i (some d)) (r : ∀ d, S d → SrU K o u iu t (ds' d) j R) : SrU K o u iu (tSeq (tAsg te (gName i)) t) ds (k + j) R := fun D σ H n E W A hn q =>
  h σ H n E W A (by omega) _ fun v d H1 s D1 x => by
    have E1 := (E.mono D1.ex).set x i
    rw [← hd d] at E1
    refine r d s D (σ.set i (some v)) H1 (n + k) E1 D1.ow ⟨A.mem, ?_, D1.urn⟩ (by omega) fun v2 d2 H2 r2 D2 y => q v2 d2 H2 r2 ?_ y
    · rw [List.getElem?_set_ne ne]
      exact A.slot
    · rw [← Nat.add_assoc]
      exact D1.trans D2
theorem su_more (h : SrU K o u iu ts ds j R) (l : j ≤ k) : SrU K o u iu ts ds k R := fun D σ H n E W A hn q =>
  h D σ H n E W A (by omega) fun v d H2 r D2 x => q v d H2 r (D2.up (by omega)) x
theorem su_imp (h : SrU K o u iu ts ds k S) (i : ∀ d, S d → R d) : SrU K o u iu ts ds k R := fun D σ H n E W A hn q => h D σ H n E W A hn fun v d H2 r D2 x => q v d H2 (i d r) D2 x
end
section
variable {P : Program} {w : World} {K : PySem.W.Frag} {mg : Str → Option Value} {base : Heap}
theorem fn_draw {x qual : Str} {st : Stmt} {f : Addr} {fd : FuncData} {N ps : List Str} {l m k : Nat} {pre : List PyData → Prop} {R : List PyData → PyData → Prop} (F : Fun K x qual st f fd) (S : FnScope N ps (defScope st)) (hm : ps.length = m + 1)
    (hbody : ∀ (cdv : Value) (A : Around) (outer : List Env) (s : Shared) (H : Hp) (E : XK), Room l (A.deeper (envOfC qual (defScope st) s.heap.objs.size f cdv)) →
      ∃ t, PSs (cxOf CX0 P w K mg base N qual (defScope st) f cdv A outer s H E).nox (defBody st) t ∧ ∀ u as, as.length = m → pre as → SrU K [u] u 0 t (none :: as.map some ++ List.replicate (N.length - (as.length + 1)) none) k (R as)) :
    FnOk P w K mg base CX0 (l + 1) f fd ps (spU K m k pre R) := by
  refine F.ok S (fun vs H Q E h => ?_) (fun cdv A outer s H vs Q E hr h => ?_)
  · obtain ⟨u, n, us, as, rfl, _, _, t, hl, _⟩ := h
    rw [List.length_cons, t.length, hl, hm]
  · obtain ⟨u, n, us, as, rfl, U, hn, t, hl, hp, q⟩ := h
    obtain ⟨tt, hps, hv⟩ := hbody cdv A outer s H E hr
    refine ⟨tt, hps, ?_⟩
    have z : start N (.ref u :: us) = some (.ref u) :: us.map some ++ List.replicate (N.length - (us.length + 1)) none := rfl
    rw [z, t.length]
    refine hv u as hl hp _ _ H n ?_ (urn_own U) ⟨by simp, rfl, U⟩ hn fun v d H2 r D2 x => q v d H2 r D2.ex D2.urn x
    exact .no (en_start _ t)
end
end Ph
namespace Ph
open PySem PySem.Spec PyProof.Rows L2
theorem rngD_len {N : Nat} : (rngD N).length = N := by
  unfold rngD
  rw [List.length_map, List.length_range]
/-- a draw as a number of turns -/
theorem take_nat {low : Int} {M : Nat} (h : low ≤ (M : Int) + 1) {d : PyData} (r : R_take [.int low] d) : ∃ N : Nat, N ≤ M ∧ d = .int N := by
  obtain ⟨l, x, e, rfl, x0, x1⟩ := r
  cases e
  obtain ⟨N, rfl⟩ := Int.eq_ofNat_of_zero_le x0
  exact ⟨N, by omega, rfl⟩
theorem take_int {low : Int} {d : PyData} (r : R_take [.int low] d) : ∃ x : Int, d = .int x ∧ 0 ≤ x ∧ x < low := by
  obtain ⟨l, x, e, rfl, x0, x1⟩ := r
  cases e
  exact ⟨x, rfl, x0, x1⟩
end Ph

namespace K2
open PySem PySem.Spec PyProof.Rows L2 Ph
def top (i : Nat) : Stmt := PySem.Challenge.pw_placehues_k02_whole_texts_change_by_chan.main.body.getD i (.Pass ⟨0, 0, 0, 0⟩)
section
variable {P : Program} {w : World} {K : PySem.W.Frag} {mg : Str → Option Value} {base : Heap}
abbrev s_is_number : Stmt := top 3
abbrev N_is_number : List Str := ["thing"]
theorem sc_is_number : FnScope N_is_number ["thing"] (defScope s_is_number) := ⟨rfl, rfl, rfl, by decide +kernel, rfl, by decide +kernel, by decide +kernel⟩
abbrev R_is_number : List PyData → PyData → Prop := fun as d => ∃ i, as = [.int i] ∧ d = .bool true
theorem ok_is_number {f : Addr} {fd : FuncData} (F : Fun K "is_number" "is_number" s_is_number f fd) (T : Blt mg)  : FnOk P w K mg base CX0 1 f fd ["thing"] (spD K 1 R_is_number) := by
  refine fn_pure F sc_is_number rfl fun cdv A outer s H E hr => ?_
  have hu64 : (A.deeper (envOfC "is_number" (defScope s_is_number) s.heap.objs.size f cdv)).units + 64 < cLine := hr.units
  refine ⟨_, (pss_one (ps_ret (pe_and (pe_callB call_isi (by rfl) T.isinstance PyProof.Rows.boot_isinstance (pa_cons (pv 0) (pa_cons (pe_bltn (v := .ty "int") (by rfl) T.int (by decide +kernel) rfl) pa_nil))) (pe_one (pe_not (pe_callB call_isi (by rfl) T.isinstance PyProof.Rows.boot_isinstance (pa_cons (pv 0) (pa_cons (pe_bltn (v := .ty "bool") (by rfl) T.bool (by decide +kernel) rfl) pa_nil)))))))), fun as d hl hR => ?_⟩
  obtain ⟨i, rfl, rfl⟩ := hR
  exact sr_to (sr_ret (ev_andV (ev_is_int (ev_var rfl)) fun _ => (ev_notV (ev_is_bool (ev_var rfl))))) rfl
abbrev s_is_tuple_of : Stmt := top 4
abbrev N_is_tuple_of : List Str := ["thing", "many"]
theorem sc_is_tuple_of : FnScope N_is_tuple_of ["thing", "many"] (defScope s_is_tuple_of) := ⟨rfl, rfl, rfl, by decide +kernel, rfl, by decide +kernel, by decide +kernel⟩
abbrev R_is_tuple_of : List PyData → PyData → Prop := fun as d => ∃ es n, as = [.tuple es, .int n] ∧ d = .bool (decide ((es.length : Int) = n))
theorem ok_is_tuple_of {f : Addr} {fd : FuncData} (F : Fun K "is_tuple_of" "is_tuple_of" s_is_tuple_of f fd) (T : Blt mg)  : FnOk P w K mg base CX0 1 f fd ["thing", "many"] (spD K 2 R_is_tuple_of) := by
  refine fn_pure F sc_is_tuple_of rfl fun cdv A outer s H E hr => ?_
  have hu64 : (A.deeper (envOfC "is_tuple_of" (defScope s_is_tuple_of) s.heap.objs.size f cdv)).units + 64 < cLine := hr.units
  refine ⟨_, (pss_one (ps_ret (pe_and (pe_callB call_isi (by rfl) T.isinstance PyProof.Rows.boot_isinstance (pa_cons (pv 0) (pa_cons (pe_bltn (v := .ty "tuple") (by rfl) T.tuple (by decide +kernel) rfl) pa_nil))) (pe_one (pe_cmpR op_eq (pe_callB call_len_seq (by rfl) T.len PySem.boot_len (pa_cons (pv 0) pa_nil)) (pv 1) (nomark _)))))), fun as d hl hR => ?_⟩
  obtain ⟨es, n, rfl, rfl⟩ := hR
  exact sr_to (sr_ret (ev_andV (ev_is_tuple (ev_var rfl)) fun _ => (ev_op (ev_cb (ea_cons (ev_var rfl) ea_nil) cb_lenT) (ev_var rfl) od_eqI))) rfl
abbrev s_has_numbers : Stmt := top 5
abbrev N_has_numbers : List Str := ["thing", "own"]
theorem sc_has_numbers : FnScope N_has_numbers ["thing"] (defScope s_has_numbers) := ⟨rfl, rfl, rfl, by decide +kernel, rfl, by decide +kernel, by decide +kernel⟩
abbrev R_has_numbers : List PyData → PyData → Prop := fun as d => ∃ ns : List Int, as = [nums ns] ∧ ns.length ≤ 1000000 ∧ d = .bool true
theorem ok_has_numbers {f : Addr} {fd : FuncData} (F : Fun K "has_numbers" "has_numbers" s_has_numbers f fd) (T : Blt mg) (C_is_number : Cal P w K mg base "is_number" 1 ["thing"] (spD K 1 R_is_number)) : FnOk P w K mg base CX0 2 f fd ["thing"] (spD K 1 R_has_numbers) := by
  refine fn_pure F sc_has_numbers rfl fun cdv A outer s H E hr => ?_
  have hu64 : (A.deeper (envOfC "has_numbers" (defScope s_has_numbers) s.heap.objs.size f cdv)).units + 64 < cLine := hr.units
  refine ⟨_, (pss_one (ps_ret (pe_and (pe_callB call_isi (by rfl) T.isinstance PyProof.Rows.boot_isinstance (pa_cons (pv 0) (pa_cons (pe_bltn (v := .ty "tuple") (by rfl) T.tuple (by decide +kernel) rfl) pa_nil))) (pe_one (pe_callB (cr_all rfl) (by rfl) T.all (by decide +kernel) (pa_cons (pe_lc (own := [("own", 1)]) (g := (gName 1)) (tt := tYes) (te := (tCall (spHide _) [] E0 (tCons (tVar 1) tNil))) rfl sc_has_numbers.nd (pi_tup (pv 0)) (blkOk_by (N := N_has_numbers) (sc := defScope s_has_numbers) (by decide +kernel)) (fun _ _ _ _ _ => by exact (pg_name (i := 1) sc_has_numbers.nd rfl (Or.inl rfl))) (fun _ _ _ _ _ => by exact pts_nil) (fun _ _ _ _ _ => by exact (pe_cal C_is_number (hr.mono (by decide)) (by rfl) (pa_cons (pv 1) pa_nil)))) pa_nil)))))), fun as d hl hR => ?_⟩
  obtain ⟨ns, rfl, hn, rfl⟩ := hR
  refine sr_to (sr_ret (ev_andV (ev_is_tuple (ev_var rfl)) fun _ => (ev_allc PyData.int (fun _ => true) _ (ei_tup (ev_var rfl)) hn (gw_name (by simp)) (fun e _ => gt_name) (fun e _ o => ev_call (ea_cons (ev_var rfl) ea_nil) rfl ⟨_, rfl, rfl⟩)))) ?_
  show PyData.bool (true && ns.all fun _ => true) = _
  rw [List.all_eq_true.mpr (fun _ _ => rfl)]
  rfl
abbrev s_has_numbers_from : Stmt := top 6
abbrev N_has_numbers_from : List Str := ["thing", "low", "own"]
theorem sc_has_numbers_from : FnScope N_has_numbers_from ["thing", "low"] (defScope s_has_numbers_from) := ⟨rfl, rfl, rfl, by decide +kernel, rfl, by decide +kernel, by decide +kernel⟩
abbrev R_has_numbers_from : List PyData → PyData → Prop := fun as d => ∃ (ns : List Int) (low : Int), as = [nums ns, .int low] ∧ ns.length ≤ 1000000 ∧ d = .bool (ns.all fun n => decide (low ≤ n))
theorem ok_has_numbers_from {f : Addr} {fd : FuncData} (F : Fun K "has_numbers_from" "has_numbers_from" s_has_numbers_from f fd) (T : Blt mg) (C_has_numbers : Cal P w K mg base "has_numbers" 2 ["thing"] (spD K 1 R_has_numbers)) : FnOk P w K mg base CX0 3 f fd ["thing", "low"] (spD K 2 R_has_numbers_from) := by
  refine fn_pure F sc_has_numbers_from rfl fun cdv A outer s H E hr => ?_
  have hu64 : (A.deeper (envOfC "has_numbers_from" (defScope s_has_numbers_from) s.heap.objs.size f cdv)).units + 64 < cLine := hr.units
  refine ⟨_, (pss_one (ps_ret (pe_and (pe_cal C_has_numbers (hr.mono (by decide)) (by rfl) (pa_cons (pv 0) pa_nil)) (pe_one (pe_callB (cr_all rfl) (by rfl) T.all (by decide +kernel) (pa_cons (pe_lc (own := [("own", 2)]) (g := (gName 2)) (tt := tYes) (te := (tOp _ (tVar 2) (tVar 1))) rfl sc_has_numbers_from.nd (pi_tup (pv 0)) (blkOk_by (N := N_has_numbers_from) (sc := defScope s_has_numbers_from) (by decide +kernel)) (fun _ _ _ _ _ => by exact (pg_name (i := 2) sc_has_numbers_from.nd rfl (Or.inl rfl))) (fun _ _ _ _ _ => by exact pts_nil) (fun _ _ _ _ _ => by exact (pe_cmpR op_ge (pv 2) (pv 1) (nomark _)))) pa_nil)))))), fun as d hl hR => ?_⟩
  obtain ⟨ns, low, rfl, hn, rfl⟩ := hR
  exact sr_to (sr_ret (ev_andV (ev_call (ea_cons (ev_var rfl) ea_nil) rfl ⟨ns, rfl, hn, rfl⟩) fun _ => (ev_allc PyData.int (fun n => decide (low ≤ n)) _ (ei_tup (ev_var rfl)) hn (gw_name (by simp)) (fun e _ => gt_name) (fun e _ o => ev_op (ev_var rfl) (ev_var rfl) od_ge)))) rfl
abbrev s__is_change : Stmt := top 9
abbrev N__is_change : List Str := ["thing", "many"]
theorem sc__is_change : FnScope N__is_change ["thing", "many"] (defScope s__is_change) := ⟨rfl, rfl, rfl, by decide +kernel, rfl, by decide +kernel, by decide +kernel⟩
abbrev R__is_change : List PyData → PyData → Prop := fun as d => ∃ (p : Int × Int) (m : Int), as = [chg p, .int m] ∧ d = .bool ((decide (0 ≤ p.1) && (decide (0 ≤ p.2) && true)) && decide (p.1 < m))
theorem ok__is_change {f : Addr} {fd : FuncData} (F : Fun K "_is_change" "_is_change" s__is_change f fd) (T : Blt mg) (C_is_tuple_of : Cal P w K mg base "is_tuple_of" 1 ["thing", "many"] (spD K 2 R_is_tuple_of)) (C_has_numbers_from : Cal P w K mg base "has_numbers_from" 3 ["thing", "low"] (spD K 2 R_has_numbers_from)) : FnOk P w K mg base CX0 4 f fd ["thing", "many"] (spD K 2 R__is_change) := by
  refine fn_pure F sc__is_change rfl fun cdv A outer s H E hr => ?_
  have hu64 : (A.deeper (envOfC "_is_change" (defScope s__is_change) s.heap.objs.size f cdv)).units + 64 < cLine := hr.units
  refine ⟨_, (pss_one (ps_ret (pe_and (pe_cal C_is_tuple_of (hr.mono (by decide)) (by rfl) (pa_cons (pv 0) (pa_cons pe_int pa_nil))) (pe_and (pe_cal C_has_numbers_from (hr.mono (by decide)) (by rfl) (pa_cons (pv 0) (pa_cons pe_int pa_nil))) (pe_one (pe_cmpR op_lt (pe_ix ix_tup (pv 0) pe_int (fun _ _ => rfl)) (pv 1) (nomark _))))))), fun as d hl hR => ?_⟩
  obtain ⟨p, m, rfl, rfl⟩ := hR
  exact sr_to (sr_ret (ev_andV (ev_call (ea_cons (ev_var rfl) (ea_cons ev_int ea_nil)) rfl ⟨_, _, rfl, rfl⟩) fun _ => (ev_andV (ev_call (ea_cons (ev_var rfl) (ea_cons ev_int ea_nil)) rfl ⟨[p.1, p.2], 0, rfl, (by show 2 ≤ 1000000; decide), rfl⟩) fun _ => (ev_op (ev_op (ev_var rfl) ev_int (od_ixT (d := .int p.1) rfl)) (ev_var rfl) od_lt)))) rfl
abbrev s_reads : Stmt := top 10
abbrev N_reads : List Str := ["text", "letter"]
theorem sc_reads : FnScope N_reads ["text"] (defScope s_reads) := ⟨rfl, rfl, rfl, by decide +kernel, rfl, by decide +kernel, by decide +kernel⟩
abbrev R_reads : List PyData → PyData → Prop := fun as d => ∃ ns : List Int, as = [nums ns] ∧ ns.length ≤ 1000000 ∧ d = nums (ns.filter fun n => decide (0 < n))
theorem ok_reads {f : Addr} {fd : FuncData} (F : Fun K "reads" "reads" s_reads f fd) (T : Blt mg)  : FnOk P w K mg base CX0 1 f fd ["text"] (spD K 1 R_reads) := by
  refine fn_pure F sc_reads rfl fun cdv A outer s H E hr => ?_
  have hu64 : (A.deeper (envOfC "reads" (defScope s_reads) s.heap.objs.size f cdv)).units + 64 < cLine := hr.units
  refine ⟨_, (pss_one (ps_ret (pe_callTy call_tuple_of (by rfl) T.tuple (by decide +kernel) (pa_cons (pe_lc (own := [("letter", 1)]) (g := (gName 1)) (tt := (tTest (tOp _ (tVar 1) (tC (.int 0))))) (te := (tVar 1)) rfl sc_reads.nd (pi_tup (pv 0)) (blkOk_by (N := N_reads) (sc := defScope s_reads) (by decide +kernel)) (fun _ _ _ _ _ => by exact (pg_name (i := 1) sc_reads.nd rfl (Or.inl rfl))) (fun _ _ _ _ _ => by exact (pts_one (pt_cmpR op_gt (pv 1) pe_int (nomark _)))) (fun _ _ _ _ _ => by exact (pv 1))) pa_nil)))), fun as d hl hR => ?_⟩
  obtain ⟨ns, rfl, hn, rfl⟩ := hR
  exact sr_to (sr_ret (ev_cb (ea_cons (ev_lc PyData.int (fun n => decide (0 < n)) PyData.int _ (ei_tup (ev_var rfl)) hn (gw_name (by simp)) (fun e _ => gt_name) (fun e _ o => eb_test (ev_op (ev_var rfl) ev_int od_gt)) (fun e _ _ o => (ev_var rfl))) ea_nil) cb_tupL)) rfl
end
end K2

namespace K2
open PySem PySem.Spec PyProof.Rows L2 Ph
section
variable {P : Program} {w : World} {K : PySem.W.Frag} {mg : Str → Option Value} {base : Heap}
abbrev s__law_same : Stmt := top 23
abbrev N__law_same : List Str := ["got", "goal", "mine_so", "own"]
theorem sc__law_same : FnScope N__law_same ["got", "goal"] (defScope s__law_same) := ⟨rfl, rfl, rfl, by decide +kernel, rfl, by decide +kernel, by decide +kernel⟩
theorem ok__law_same {f : Addr} {fd : FuncData} (F : Fun K "_law_same" "_law_same" s__law_same f fd) (T : Blt mg) (gf : mg "_law_same" = some (.ref f)) (kf : PySem.W.keepIn K (.ref f) = true) (bf : Binds K fd ["got", "goal"] []) :
    ∀ n : Nat, FnOk P w K mg base CX0 n f fd ["got", "goal"] (spD K 2 (R_same n)) := by
  intro n
  induction n with
  | zero => exact ⟨fun vs H Q E h => (by obtain ⟨as, d, _, _, h, _⟩ := h; exact h.elim), fun A outer s H args us vs Q E hr e0 hb hv h => (by obtain ⟨as, d, _, _, h, _⟩ := h; exact h.elim)⟩
  | succ n ih =>
    have C : Cal P w K mg base "_law_same" n ["got", "goal"] (spD K 2 (R_same n)) := ⟨f, fd, gf, kf, bf, ih⟩
    refine fn_pure F sc__law_same rfl fun cdv A outer s H E hr => ?_
    refine ⟨_, (pss_cons (ps_if (pt_val (pe_callB call_isiT (by rfl) T.isinstance PyProof.Rows.boot_isinstance (pa_cons (pv 1) (pa_cons (pe_tup (pa_cons (pe_bltn (v := .ty "list") (by rfl) T.list (by decide +kernel) rfl) (pa_cons (pe_bltn (v := .ty "tuple") (by rfl) T.tuple (by decide +kernel) rfl) pa_nil))) pa_nil)))) (pss_cons (ps_if (PW.pt (pw_or (pt_cmpR op_ne (pe_callB call_isi (by rfl) T.isinstance PyProof.Rows.boot_isinstance (pa_cons (pv 0) (pa_cons (pe_bltn (v := .ty "list") (by rfl) T.list (by decide +kernel) rfl) pa_nil))) (pe_callB call_isi (by rfl) T.isinstance PyProof.Rows.boot_isinstance (pa_cons (pv 1) (pa_cons (pe_bltn (v := .ty "list") (by rfl) T.list (by decide +kernel) rfl) pa_nil))) (nomark _)) (pw_or1 (pt_cmpR op_ne (pe_callB call_isi (by rfl) T.isinstance PyProof.Rows.boot_isinstance (pa_cons (pv 0) (pa_cons (pe_bltn (v := .ty "tuple") (by rfl) T.tuple (by decide +kernel) rfl) pa_nil))) (pe_callB call_isi (by rfl) T.isinstance PyProof.Rows.boot_isinstance (pa_cons (pv 1) (pa_cons (pe_bltn (v := .ty "tuple") (by rfl) T.tuple (by decide +kernel) rfl) pa_nil))) (nomark _))))) (pss_one (ps_ret pe_bl)) pss_nil)
      (pss_one (ps_ret (pe_and (pe_cmpR op_eq (pe_callB call_len_seq (by rfl) T.len PySem.boot_len (pa_cons (pv 0) pa_nil)) (pe_callB call_len_seq (by rfl) T.len PySem.boot_len (pa_cons (pv 1) pa_nil)) (nomark _)) (pe_one (pe_callB (cr_all rfl) (by rfl) T.all (by decide +kernel) (pa_cons (pe_lc (own := [("mine_so", 2), ("own", 3)]) (g := (gTup K 2 (gCons (gName 2) (gCons (gName 3) gNil)))) (tt := tYes) (te := (tCall (spHide _) [] E0 (tCons (tVar 2) (tCons (tVar 3) tNil)))) rfl sc__law_same.nd (RZ.pi_zipA (by rfl) T.zip (pa_cons (pv 0) (pa_cons (pv 1) pa_nil))) (blkOk_by (N := N__law_same) (sc := defScope s__law_same) (by decide +kernel)) (fun _ _ _ _ _ => by exact (pg_tup rfl (pgs_cons (pg_name (i := 2) sc__law_same.nd rfl (Or.inl rfl)) (pgs_cons (pg_name (i := 3) sc__law_same.nd rfl (Or.inl rfl)) pgs_nil)))) (fun _ _ _ _ _ => by exact pts_nil) (fun _ _ _ _ _ => by exact (pe_cal C hr (by rfl) (pa_cons (pv 2) (pa_cons (pv 3) pa_nil))))) pa_nil))))))) pss_nil)
      (pss_cons (ps_if (PW.pt (pw_or (pt_cmp (pc_isN (pv 1)) rfl) (pw_or1 (pt_val (pe_callB call_isiT (by rfl) T.isinstance PyProof.Rows.boot_isinstance (pa_cons (pv 1) (pa_cons (pe_tup (pa_cons (pe_bltn (v := .ty "bool") (by rfl) T.bool (by decide +kernel) rfl) (pa_cons (pe_bltn (v := .ty "str") (by rfl) T.str (by decide +kernel) rfl) pa_nil))) pa_nil))))))) (pss_one (ps_ret (pe_and (pe_cmpR op_eq (pv 0) (pv 1) (nomark _)) (pe_and (pe_cmpR op_eq (pe_callB call_isi (by rfl) T.isinstance PyProof.Rows.boot_isinstance (pa_cons (pv 0) (pa_cons (pe_bltn (v := .ty "bool") (by rfl) T.bool (by decide +kernel) rfl) pa_nil))) (pe_callB call_isi (by rfl) T.isinstance PyProof.Rows.boot_isinstance (pa_cons (pv 1) (pa_cons (pe_bltn (v := .ty "bool") (by rfl) T.bool (by decide +kernel) rfl) pa_nil))) (nomark _)) (pe_one (pe_cmpR op_eq (pe_cmp (pc_isN (pv 0)) rfl) (pe_cmp (pc_isN (pv 1)) rfl) (nomark _))))))) pss_nil)
      (pss_one (ps_ret (pe_and (pe_callB call_isi (by rfl) T.isinstance PyProof.Rows.boot_isinstance (pa_cons (pv 0) (pa_cons (pe_bltn (v := .ty "int") (by rfl) T.int (by decide +kernel) rfl) pa_nil))) (pe_and (pe_not (pe_callB call_isi (by rfl) T.isinstance PyProof.Rows.boot_isinstance (pa_cons (pv 0) (pa_cons (pe_bltn (v := .ty "bool") (by rfl) T.bool (by decide +kernel) rfl) pa_nil)))) (pe_one (pe_cmpR op_eq (pv 0) (pv 1) (nomark _))))))))), fun as d hl hR => ?_⟩
    obtain ⟨a, rfl, ok, rfl⟩ := hR
    cases a with
    | none => exact sr_ifRet (eb_B (ev_is_list_tuple (ev_var rfl))) (fun h => nomatch h) (fun _ => sr_ifRet (eb_or (eb_B (ev_isNone (ev_var rfl))) fun _ => eb_B (ev_is_bool_str (ev_var rfl))) (fun _ => sr_to (sr_ret (ev_andV (ev_op (ev_var rfl) (ev_var rfl) (od_eqS rfl)) fun _ => (ev_andV (ev_op (ev_is_bool (ev_var rfl)) (ev_is_bool (ev_var rfl)) od_eqB) fun _ => (ev_op (ev_isNone (ev_var rfl)) (ev_isNone (ev_var rfl)) od_eqB)))) rfl) (fun h => nomatch h))
    | bool b => exact sr_ifRet (eb_B (ev_is_list_tuple (ev_var rfl))) (fun h => nomatch h) (fun _ => sr_ifRet (eb_or (eb_B (ev_isNone (ev_var rfl))) fun _ => eb_B (ev_is_bool_str (ev_var rfl))) (fun _ => sr_to (sr_ret (ev_andV (ev_op (ev_var rfl) (ev_var rfl) (od_eqS rfl)) fun _ => (ev_andV (ev_op (ev_is_bool (ev_var rfl)) (ev_is_bool (ev_var rfl)) od_eqB) fun _ => (ev_op (ev_isNone (ev_var rfl)) (ev_isNone (ev_var rfl)) od_eqB)))) rfl) (fun h => nomatch h))
    | str b => exact sr_ifRet (eb_B (ev_is_list_tuple (ev_var rfl))) (fun h => nomatch h) (fun _ => sr_ifRet (eb_or (eb_B (ev_isNone (ev_var rfl))) fun _ => eb_B (ev_is_bool_str (ev_var rfl))) (fun _ => sr_to (sr_ret (ev_andV (ev_op (ev_var rfl) (ev_var rfl) (od_eqS rfl)) fun _ => (ev_andV (ev_op (ev_is_bool (ev_var rfl)) (ev_is_bool (ev_var rfl)) od_eqB) fun _ => (ev_op (ev_isNone (ev_var rfl)) (ev_isNone (ev_var rfl)) od_eqB)))) rfl) (fun h => nomatch h))
    | int i => exact sr_ifRet (eb_B (ev_is_list_tuple (ev_var rfl))) (fun h => nomatch h) (fun _ => sr_ifRet (eb_or (eb_B (ev_isNone (ev_var rfl))) fun _ => eb_B (ev_is_bool_str (ev_var rfl))) (fun h => nomatch h) (fun _ => sr_to (sr_ret (ev_andV (ev_is_int (ev_var rfl)) fun _ => (ev_andV (ev_notV (ev_is_bool (ev_var rfl))) fun _ => (ev_op (ev_var rfl) (ev_var rfl) (od_eqS rfl))))) rfl))
    | dict kvs => cases n <;> cases ok
    | list es =>
      cases n with
      | zero => cases ok
      | succ n =>
        obtain ⟨hl, hes⟩ := ok
        refine sr_ifRet (eb_B (ev_is_list_tuple (ev_var rfl))) (fun _ => sr_ifRet (eb_or (eb_test (ev_op (ev_is_list (ev_var rfl)) (ev_is_list (ev_var rfl)) od_neB)) fun _ => (eb_test (ev_op (ev_is_tuple (ev_var rfl)) (ev_is_tuple (ev_var rfl)) od_neB))) (fun h => nomatch h) (fun _ => ?_)) (fun h => nomatch h)
        refine sr_to (sr_ret (ev_andV (ev_op (ev_cb (ea_cons (ev_var rfl) ea_nil) cb_lenL) (ev_cb (ea_cons (ev_var rfl) ea_nil) cb_lenL) od_eqI) fun _ => (ev_allc (fun e => .tuple [e, e]) (fun _ => true) _ (zipD_self es ▸ ei_zipL (ev_var rfl) (ev_var rfl)) hl (gw_two (by simp) (by simp)) (fun e _ => gt_two) (fun e he o => ev_call (ea_cons (ev_var rfl) (ea_cons (ev_var rfl) ea_nil)) rfl ⟨e, rfl, hes e he, rfl⟩)))) ?_
        rw [List.all_eq_true.mpr (fun _ _ => rfl), decide_eq_true rfl]
        rfl
    | tuple es =>
      cases n with
      | zero => cases ok
      | succ n =>
        obtain ⟨hl, hes⟩ := ok
        refine sr_ifRet (eb_B (ev_is_list_tuple (ev_var rfl))) (fun _ => sr_ifRet (eb_or (eb_test (ev_op (ev_is_list (ev_var rfl)) (ev_is_list (ev_var rfl)) od_neB)) fun _ => (eb_test (ev_op (ev_is_tuple (ev_var rfl)) (ev_is_tuple (ev_var rfl)) od_neB))) (fun h => nomatch h) (fun _ => ?_)) (fun h => nomatch h)
        refine sr_to (sr_ret (ev_andV (ev_op (ev_cb (ea_cons (ev_var rfl) ea_nil) cb_lenT) (ev_cb (ea_cons (ev_var rfl) ea_nil) cb_lenT) od_eqI) fun _ => (ev_allc (fun e => .tuple [e, e]) (fun _ => true) _ (zipD_self es ▸ ei_zipT (ev_var rfl) (ev_var rfl)) hl (gw_two (by simp) (by simp)) (fun e _ => gt_two) (fun e he o => ev_call (ea_cons (ev_var rfl) (ea_cons (ev_var rfl) ea_nil)) rfl ⟨e, rfl, hes e he, rfl⟩)))) ?_
        rw [List.all_eq_true.mpr (fun _ _ => rfl), decide_eq_true rfl]
        rfl
end
end K2

namespace K2
open PySem PySem.Spec PyProof.Rows L2 Ph
section
variable {P : Program} {w : World} {K : PySem.W.Frag} {mg : Str → Option Value} {base : Heap}
abbrev s__law_take : Stmt := top 20
abbrev N__law_take : List Str := ["urn", "low_so", "drawn", "once", "far", "twice"]
theorem sc__law_take : FnScope N__law_take ["urn", "low_so"] (defScope s__law_take) := ⟨rfl, rfl, rfl, by decide +kernel, rfl, by decide +kernel, by decide +kernel⟩
theorem ok__law_take {f : Addr} {fd : FuncData} (F : Fun K "_law_take" "_law_take" s__law_take f fd) (T : Blt mg) : FnOk P w K mg base CX0 1 f fd ["urn", "low_so"] spTake := by
  refine F.ok sc__law_take (fun vs H Q E h => ?_) (fun cdv A outer s H vs Q E hr h => ?_)
  · obtain ⟨u, low, n, rfl, _⟩ := h
    rfl
  · obtain ⟨u, low, n, rfl, ⟨b, c, m, hu, b0, c0, c1, m0, m1⟩, hn, l1, l2, q⟩ := h
    refine ⟨_, (pss_cons (ps_if (pt_cmpR op_gt (pe_ix ix_list (pv 0) pe_int (fun _ _ => rfl)) pe_int (nomark _)) (pss_cons (ps_set (i := 2) sc__law_take.nd rfl (Or.inl rfl) (pe_op op_mod (pe_callTy call_int1 (by rfl) T.int (by decide +kernel) (pa_cons (pe_ix ix_list (pv 0) pe_int (fun _ _ => rfl)) pa_nil)) (pv 1)))
      (pss_cons (ps_asg (pe_op op_fdivW (pe_ix ix_list (pv 0) pe_int (fun _ _ => rfl)) (pv 1)) (pg_sub (pv 0) pe_int set_list))
      (pss_one (ps_ret (pv 2))))) pss_nil)
      (pss_cons (ps_asg (pe_op op_add (pe_ix ix_list (pv 0) pe_int (fun _ _ => rfl)) pe_int) (pg_sub (pv 0) pe_int set_list))
      (pss_cons (ps_set (i := 3) sc__law_take.nd rfl (Or.inl rfl) (pe_op op_mod (pe_callTy call_int1 (by rfl) T.int (by decide +kernel) (pa_cons (pe_op op_mul (pe_op op_add (pe_ix ix_list (pv 0) pe_int (fun _ _ => rfl)) (pe_op op_mul pe_int (pe_ix ix_list (pv 0) pe_int (fun _ _ => rfl)))) (pe_op op_add pe_int (pe_ix ix_list (pv 0) pe_int (fun _ _ => rfl)))) pa_nil)) pe_int))
      (pss_cons (ps_set (i := 4) sc__law_take.nd rfl (Or.inl rfl) (pe_op op_add (pe_op op_mod (pe_callTy call_int1 (by rfl) T.int (by decide +kernel) (pa_cons (pv 3) pa_nil)) pe_int) pe_int))
      (pss_cons (ps_set (i := 5) sc__law_take.nd rfl (Or.inl rfl) (pe_op op_mod (pe_callTy call_int1 (by rfl) T.int (by decide +kernel) (pa_cons (pe_op op_mul (pe_op op_add (pe_op op_add (pv 3) (pe_ix ix_list (pv 0) pe_int (fun _ _ => rfl))) (pe_op op_fdiv (pe_ix ix_list (pv 0) pe_int (fun _ _ => rfl)) pe_int)) (pv 4)) pa_nil)) pe_int))
      (pss_one (ps_ret (pe_op op_mod (pe_callTy call_int1 (by rfl) T.int (by decide +kernel) (pa_cons (pe_op op_fdiv (pe_op op_mod (pe_callTy call_int1 (by rfl) T.int (by decide +kernel) (pa_cons (pe_op op_add (pe_op op_mul (pv 5) pe_int) (pv 3)) pa_nil)) pe_int) pe_int) pa_nil)) (pv 1))))))))), ?_⟩
    have n1 : (n : Int) ≤ 100000 := by omega
    have E0 : En K (hide H []) [some (.ref u), some (.int low), none, none, none, none] [some (.list [.int b, .int c, .int m]), some (.int low), none, none, none, none] :=
      en0 (.yes (.lst hu (.cons (.int b) (.cons (.int c) (.cons (.int m) .nil)))) (.yes (.int low) (.no (.no (.no (.no .nil))))))
    have hdv : CDivW b low := ⟨by omega, Nat.lt_trans (PySem.Flt.log2_lt_of (show 0 < 20 by decide) (show low.natAbs < 2 ^ 20 by omega)) (by decide)⟩
    -- the test
    refine ss_if (b := decide ((0 : Int) < b)) E0 own0 ?h fun H1 e1 W1 => ?_
    case h => exact (eb_test (ev_op (ev_op (ev_var (by rfl)) ev_int (od_ixL (d := .int b) (by rfl))) ev_int od_gt))
    have E1 := E0.mono (ex_hide e1)
    by_cases hb : (0 : Int) < b
    · rw [decide_eq_true hb]
      refine iteT ?_
      refine ss_set (e := .int (b % low)) E1 W1 ?h fun v H2 e2 W2 x => ?_
      case h => exact (ev_op (ev_cb (ea_cons (ev_op (ev_var (by rfl)) ev_int (od_ixL (d := .int b) (by rfl))) ea_nil) cb_int) (ev_var (by rfl)) (od_mod (by omega)))
      cases dd_int x
      have E2 := (E1.mono (ex_hide e2)).set (.int (b % low)) 2
      refine ss_item (j := 0) E2 W2 (ev_op (ev_op (ev_var (by rfl)) ev_int (od_ixL (d := .int b) (by rfl))) (ev_var (by rfl)) (od_divW hdv)) ev_int rfl (e2 _ _ (e1 _ _ hu)) rfl fun v H3 e3 W3 x => ?_
      cases dd_int x
      refine ⟨_, rfl, q (b % low) _ (Int.emod_nonneg _ (by omega)) (Int.emod_lt_of_pos _ (by omega)) (fun a z ha e => ?_) ?_⟩
      · rw [upd_ne ha]
        exact e3 _ _ (e2 _ _ (e1 _ _ e))
      · exact ⟨b / low, c, m, upd_same, Int.ediv_nonneg b0 (by omega), c0, c1, m0, by omega⟩
    · rw [decide_eq_false hb]
      refine iteF ?_
      -- urn[2] = urn[2] + 1
      refine ss_item (j := 2) E1 W1 (ev_op (ev_op (ev_var (by rfl)) ev_int (od_ixL (d := .int m) (by rfl))) ev_int od_add) ev_int rfl (e1 _ _ hu) rfl fun v H2 e2 W2 x => ?_
      cases dd_int x
      have hu2 : upd H2 u (.lst [.int b, .int c, .int (m + 1)]) u = some (.lst [.int b, .int c, .int (m + 1)]) := upd_same
      have E2 : En K (hide (upd H2 u (.lst [.int b, .int c, .int (m + 1)])) []) [some (.ref u), some (.int low), none, none, none, none] [some (.list [.int b, .int c, .int (m + 1)]), some (.int low), none, none, none, none] :=
        en0 (.yes (.lst hu2 (.cons (.int b) (.cons (.int c) (.cons (.int (m + 1)) .nil)))) (.yes (.int low) (.no (.no (.no (.no .nil))))))
      have e12 : But u H (upd H2 u (.lst [.int b, .int c, .int (m + 1)])) := fun a z ha e => by
        rw [upd_ne ha]
        exact e2 _ _ (e1 _ _ e)
      have U2 : Urn (upd H2 u (.lst [.int b, .int c, .int (m + 1)])) u (n + 1) := ⟨b, c, m + 1, hu2, b0, c0, c1, by omega, by omega⟩
      show tSeq _ _ _ _ (upd H2 u (.lst [.int b, .int c, .int (m + 1)]))
      generalize upd H2 u (.lst [.int b, .int c, .int (m + 1)]) = H3 at E2 e12 U2 ⊢
      -- once
      refine ss_set (e := .int (((c + 48271 * (m + 1)) * (39373 + (m + 1))) % 2147483647)) E2 own0 ?h fun v H4 e4 W4 x => ?_
      case h => exact (ev_op (ev_cb (ea_cons (ev_op (ev_op (ev_op (ev_var (by rfl)) ev_int (od_ixL (d := .int c) (by rfl))) (ev_op ev_int (ev_op (ev_var (by rfl)) ev_int (od_ixL (d := .int (m + 1)) (by rfl))) (od_mul (Or.inl (by decide)))) od_add) (ev_op ev_int (ev_op (ev_var (by rfl)) ev_int (od_ixL (d := .int (m + 1)) (by rfl))) od_add) (od_mul (Or.inr (by omega)))) ea_nil) cb_int) ev_int (od_mod (by decide)))
      cases dd_int x
      generalize hX : (((c + 48271 * (m + 1)) * (39373 + (m + 1))) % 2147483647 : Int) = X
      have E4 := (E2.mono (ex_hide e4)).set (.int X) 3
      -- far
      refine ss_set (e := .int (X % 40009 + 7)) E4 W4 ?h fun v H5 e5 W5 x => ?_
      case h => exact (ev_op (ev_op (ev_cb (ea_cons (ev_var (by rfl)) ea_nil) cb_int) ev_int (od_mod (by decide))) ev_int od_add)
      cases dd_int x
      have fb : 0 ≤ X % 40009 := Int.emod_nonneg _ (by decide)
      have fb2 : X % 40009 < 40009 := Int.emod_lt_of_pos _ (by decide)
      generalize X % 40009 = Y at fb fb2
      have E5 := (E4.mono (ex_hide e5)).set (.int (Y + 7)) 4
      -- twice
      refine ss_set (e := .int (((X + (m + 1) + c / 1000003) * (Y + 7)) % 2147483629)) E5 W5 ?h fun v H6 e6 W6 x => ?_
      case h => exact (ev_op (ev_cb (ea_cons (ev_op (ev_op (ev_op (ev_var (by rfl)) (ev_op (ev_var (by rfl)) ev_int (od_ixL (d := .int (m + 1)) (by rfl))) od_add) (ev_op (ev_op (ev_var (by rfl)) ev_int (od_ixL (d := .int c) (by rfl))) ev_int (od_div ⟨by decide, by decide⟩)) od_add) (ev_var (by rfl)) (od_mul (Or.inr (by omega)))) ea_nil) cb_int) ev_int (od_mod (by decide)))
      cases dd_int x
      generalize (((X + (m + 1) + c / 1000003) * (Y + 7)) % 2147483629 : Int) = Z
      have E6 := (E5.mono (ex_hide e6)).set (.int Z) 5
      refine st_ret (e := .int ((Z * 48271 + X) % 2147483587 / 64 % low)) E6 W6 ?h fun v H7 e7 W7 x => ?_
      case h => exact (ev_op (ev_cb (ea_cons (ev_op (ev_op (ev_cb (ea_cons (ev_op (ev_op (ev_var (by rfl)) ev_int (od_mul (Or.inr (by decide)))) (ev_var (by rfl)) od_add) ea_nil) cb_int) ev_int (od_mod (by decide))) ev_int (od_div ⟨by decide, by decide⟩)) ea_nil) cb_int) (ev_var (by rfl)) (od_mod (by omega)))
      cases dd_int x
      refine q _ _ (Int.emod_nonneg _ (by omega)) (Int.emod_lt_of_pos _ (by omega)) (fun a z ha e => e7 _ _ (e6 _ _ (e5 _ _ (e4 _ _ (e12 a z ha e))))) (U2.keep ?_)
      obtain ⟨b2, c2, m2, g, _⟩ := U2
      rw [g]
      exact e7 _ _ (e6 _ _ (e5 _ _ (e4 _ _ g)))
abbrev s__law_box : Stmt := top 19
abbrev N__law_box : List Str := ["script", "k", "cell"]
theorem sc__law_box : FnScope N__law_box ["script", "k"] (defScope s__law_box) := ⟨rfl, rfl, rfl, by decide +kernel, rfl, by decide +kernel, by decide +kernel⟩
theorem ok__law_box {f : Addr} {fd : FuncData} (F : Fun K "_law_box" "_law_box" s__law_box f fd) (T : Blt mg) : FnOk P w K mg base CX0 1 f fd ["script", "k"] spBox := by
  refine F.ok sc__law_box (fun vs H Q E h => ?_) (fun cdv A outer s H vs Q E hr h => ?_)
  · obtain ⟨a, ns, k, rfl, _⟩ := h
    rfl
  · obtain ⟨a, ns, k, rfl, ha, hk, k1, q⟩ := h
    refine ⟨_, (pss_cons (ps_set (i := 2) sc__law_box.nd rfl (Or.inl rfl) (pe_ifExp (pt_cmpR op_lt (pv 1) (pe_callB call_len_seq (by rfl) T.len PySem.boot_len (pa_cons (pv 0) pa_nil)) (nomark _)) (pe_ix ix_list (pv 0) (pv 1) (fun _ _ => rfl)) pe_int))
      (pss_one (ps_ret (pe_lst (pa_cons (pe_op op_mul (pe_callB call_abs (by rfl) T.abs (by decide +kernel) (pa_cons (pv 2) pa_nil)) (pe_callTy call_int1 (by rfl) T.int (by decide +kernel) (pa_cons (pe_cmpR op_ge (pe_callB call_abs (by rfl) T.abs (by decide +kernel) (pa_cons (pv 2) pa_nil)) (pe_op op_pow pe_int pe_int) (nomark _)) pa_nil))) (pa_cons (pe_op op_add (pe_op op_add (pe_op op_mod (pe_callTy call_int1 (by rfl) T.int (by decide +kernel) (pa_cons (pv 2) pa_nil)) pe_int) (pe_op op_mul pe_int (pv 1))) pe_int) (pa_cons pe_int pa_nil))))))), ?_⟩
    have E0 : En K (hide H []) [some (.ref a), some (.int k), none] [some (.list (ns.map PyData.int)), some (.int k), none] :=
      en0 (.yes (.lst ha (dds_of_ints ns)) (.yes (.int k) (.no .nil)))
    have hlen : decide ((k : Int) < ((ns.map PyData.int).length : Nat)) = true := decide_eq_true (by rw [List.length_map]; omega)
    refine ss_set (e := .int ns[k]) E0 own0 (ev_ifE (b := true) (hlen ▸ eb_test (ev_op (ev_var (by rfl)) (ev_cb (ea_cons (ev_var (by rfl)) ea_nil) cb_lenL) od_lt)) (fun _ => (ev_op (ev_var (by rfl)) (ev_var (by rfl)) (od_ixL (by exact atI_nat (mapGet hk))))) (fun h => nomatch h)) fun v H1 e1 W1 x => ?_
    cases dd_int x
    have E1 := (E0.mono (ex_hide e1)).set (.int ns[k]) 2
    generalize ns[k] = z at E1 ⊢
    refine st_retNew (es := [.int ((if z < 0 then -z else z) * (if (decide ((10 : Int) ^ (18 : Int).toNat ≤ if z < 0 then -z else z)) then 1 else 0)), .int (z % 2305843009213693951 + 39373 * k + 98812), .int 0]) E1 W1 (ea_cons (ev_op (ev_cb (ea_cons (ev_var (by rfl)) ea_nil) cb_abs) (ev_cb (ea_cons (ev_op (ev_cb (ea_cons (ev_var (by rfl)) ea_nil) cb_abs) (ev_op ev_int ev_int (od_pow ⟨by decide, by decide, by decide⟩)) od_ge) ea_nil) cb_intB) (od_mul (Or.inr (b01 _)))) (ea_cons (ev_op (ev_op (ev_op (ev_cb (ea_cons (ev_var (by rfl)) ea_nil) cb_int) ev_int (od_mod (by decide))) (ev_op ev_int (ev_var (by rfl)) (od_mul (Or.inl (by decide)))) od_add) ev_int od_add) (ea_cons ev_int ea_nil))) (by show 3 ≤ sizeLine; decide) fun vs p H2 H3 e2 hp e3 xs => ?_
    have z0 : (0 : Int) ≤ z % 2305843009213693951 := Int.emod_nonneg _ (by decide)
    have z1 : z % 2305843009213693951 < 2305843009213693951 := Int.emod_lt_of_pos _ (by decide)
    subst e3
    cases xs with
    | cons h1 xs =>
      cases xs with
      | cons h2 xs =>
        cases xs with
        | cons h3 xs =>
          cases xs
          rw [dd_int h1, dd_int h2, dd_int h3]
          have pH : H p = none := (e1.trans e2).free hp
          refine q p _ (fun a x e => ?_) pH ⟨_, _, _, upd_same, ?_, by omega, by omega, by decide, by decide⟩
          · rw [upd_ne (ne_of_none e pH)]
            exact e2 _ _ (e1 _ _ e)
          · refine Int.mul_nonneg ?_ ?_
            · split <;> omega
            · exact b0 _
abbrev s__law_of : Stmt := top 22
abbrev N__law_of : List Str := ["urn", "some_so"]
theorem sc__law_of : FnScope N__law_of ["urn", "some_so"] (defScope s__law_of) := ⟨rfl, rfl, rfl, by decide +kernel, rfl, by decide +kernel, by decide +kernel⟩
theorem ok__law_of {f : Addr} {fd : FuncData} (F : Fun K "_law_of" "_law_of" s__law_of f fd) (T : Blt mg) (C : Cal P w K mg base "_law_take" 1 ["urn", "low_so"] (spU K 1 1 pre_take R_take)) : FnOk P w K mg base CX0 2 f fd ["urn", "some_so"] (spU K 1 1 pre_of R_of) := by
  refine fn_draw F sc__law_of rfl fun cdv A outer s H E hr => ?_
  refine ⟨_, (pss_one (ps_ret (pe_ix ix_list (pv 1) (pe_cal C (hr.mono (by decide)) (by rfl) (pa_cons (pv 0) (pa_cons (pe_callB call_len_seq (by rfl) T.len PySem.boot_len (pa_cons (pv 1) pa_nil)) pa_nil))) (fun _ _ => rfl)))), fun u as hl hp => ?_⟩
  obtain ⟨es, rfl, l1, l2⟩ := hp
  refine su_more (su_ret (eu_op (eu_pure (ev_var (by rfl))) (eu_call (ea_cons (ev_cb (ea_cons (ev_var (by rfl)) ea_nil) cb_lenL) ea_nil) rfl ⟨_, rfl, by omega, by omega⟩) fun a b ha hb => ?_)) (Nat.le_refl _)
  obtain ⟨low, r, e1, rfl, r0, r1⟩ := hb
  cases e1
  subst ha
  obtain ⟨j, rfl⟩ := Int.eq_ofNat_of_zero_le r0
  have hj : j < es.length := by omega
  exact ⟨es[j], ⟨es, rfl, List.getElem_mem hj⟩, od_ixL (atI_nat (List.getElem?_eq_getElem hj))⟩
end
end K2

namespace K2
open PySem PySem.Spec PyProof.Rows L2 Ph
section
variable {P : Program} {w : World} {K : PySem.W.Frag} {mg : Str → Option Value} {base : Heap}
abbrev s__law_past : Stmt := top 24
abbrev N__law_past : List Str := ["urn", "most", "letters_so", "many", "k"]
theorem sc__law_past : FnScope N__law_past ["urn", "most", "letters_so"] (defScope s__law_past) := ⟨rfl, rfl, rfl, by decide +kernel, rfl, by decide +kernel, by decide +kernel⟩
abbrev pre_past : List PyData → Prop := fun as => ∃ most letters : Int, as = [.int most, .int letters] ∧ 0 ≤ most ∧ most ≤ 100 ∧ 0 ≤ letters ∧ letters ≤ 100
/-- a history that is one -/
def Good (m : Int) (cs : List (Int × Int)) : Prop := 1 ≤ m ∧ m ≤ 6 ∧ cs.length ≤ 100 ∧ ∀ p ∈ cs, 0 ≤ p.1 ∧ p.1 < m ∧ 0 ≤ p.2 ∧ p.2 ≤ 100
abbrev R_past : List PyData → PyData → Prop := fun as d => ∃ m cs, d = his m cs ∧ Good m cs
theorem chgs_of {m : Int} {l : Int} : ∀ {os : List PyData}, (∀ x ∈ os, ∃ a b : Int, x = .tuple [.int a, .int b] ∧ 0 ≤ a ∧ a < m ∧ 0 ≤ b ∧ b ≤ l) → ∃ cs : List (Int × Int), os = cs.map chg ∧ cs.length = os.length ∧ ∀ p ∈ cs, 0 ≤ p.1 ∧ p.1 < m ∧ 0 ≤ p.2 ∧ p.2 ≤ l
  | [], _ => ⟨[], rfl, rfl, fun p h => by cases h⟩
  | x :: os, h => by
    obtain ⟨cs, e, hl, hc⟩ := chgs_of (os := os) fun y m => h y (List.mem_cons_of_mem _ m)
    obtain ⟨a, b, rfl, r⟩ := h x List.mem_cons_self
    refine ⟨(a, b) :: cs, by rw [e]; rfl, by rw [List.length_cons, List.length_cons, hl], fun p hp => ?_⟩
    rcases List.mem_cons.mp hp with rfl | hp
    · exact r
    · exact hc p hp
theorem ok__law_past {f : Addr} {fd : FuncData} (F : Fun K "_law_past" "_law_past" s__law_past f fd) (T : Blt mg) (C : Cal P w K mg base "_law_take" 1 ["urn", "low_so"] (spU K 1 1 pre_take R_take)) : FnOk P w K mg base CX0 2 f fd ["urn", "most", "letters_so"] (spU K 2 300 pre_past R_past) := by
  refine fn_draw F sc__law_past rfl fun cdv A outer s H E hr => ?_
  refine ⟨_, (pss_cons (ps_set (i := 3) sc__law_past.nd rfl (Or.inr rfl) (pe_op op_add pe_int (pe_cal C (hr.mono (by decide)) (by rfl) (pa_cons (pv 0) (pa_cons pe_int pa_nil)))))
      (pss_one (ps_ret (pe_tup (pa_cons (pv 3) (pa_cons (pe_callTy call_tuple_of (by rfl) T.tuple (by decide +kernel) (pa_cons (pe_lc (own := [("k", 4)]) (g := (gName 4)) (tt := tYes) (te := (tTup (tCons (tCall (spHide _) [] E0 (tCons (tVar 0) (tCons (tVar 3) tNil))) (tCons (tCall (spHide _) [] E0 (tCons (tVar 0) (tCons (tOp _ (tVar 2) (tC (.int 1))) tNil))) tNil)))) rfl sc__law_past.nd (pi_range1 rfl T.range (pa_cons (pe_cal C (hr.mono (by decide)) (by rfl) (pa_cons (pv 0) (pa_cons (pe_op op_add (pv 1) pe_int) pa_nil))) pa_nil)) (blkOk_by (N := N__law_past) (sc := defScope s__law_past) (by decide +kernel)) (fun _ _ _ _ _ => by exact (pg_name (i := 4) sc__law_past.nd rfl (Or.inl rfl))) (fun _ _ _ _ _ => by exact pts_nil) (fun _ _ _ _ _ => by exact (pe_tup (pa_cons (pe_cal C (hr.mono (by decide)) (by rfl) (pa_cons (pv 0) (pa_cons (pv 3) pa_nil))) (pa_cons (pe_cal C (hr.mono (by decide)) (by rfl) (pa_cons (pv 0) (pa_cons (pe_op op_add (pv 2) pe_int) pa_nil))) pa_nil))))) pa_nil)) pa_nil)))))), fun u as hl hp => ?_⟩
  obtain ⟨most, letters, rfl, a1, a2, a3, a4⟩ := hp
  refine su_more (su_set (S := fun d => ∃ m : Int, d = .int m ∧ 1 ≤ m ∧ m ≤ 6) (j := 203) (eu_op (eu_pure ev_int) (eu_call (ea_cons ev_int ea_nil) rfl ⟨_, rfl, by decide, by decide⟩) fun a b ha hb => ?_) (by decide) (fun d => rfl) fun d hd => ?_) (by decide)
  · obtain ⟨low, r, e1, rfl, r0, r1⟩ := hb
    cases e1
    subst ha
    exact ⟨_, ⟨_, rfl, by omega, by omega⟩, od_add⟩
  · obtain ⟨m, rfl, m1, m2⟩ := hd
    refine su_imp (su_more (su_ret (eu_tup (eau_cons (eu_pure (ev_var (by rfl))) (eau_cons (eu_cb (R := fun d => ∃ cs : List (Int × Int), d = .tuple (cs.map chg) ∧ cs.length ≤ 100 ∧ ∀ p ∈ cs, 0 ≤ p.1 ∧ p.1 < m ∧ 0 ≤ p.2 ∧ p.2 ≤ letters) (eau_cons
      (eu_lc (j := 2) (P := fun x => ∃ a b : Int, x = .tuple [.int a, .int b] ∧ 0 ≤ a ∧ a < m ∧ 0 ≤ b ∧ b ≤ letters) 100 _ (eiu_rng (M := 100) (eu_imp (eu_call (ea_cons (ev_op (ev_var (by rfl)) ev_int od_add) ea_nil) rfl ⟨_, rfl, by omega, by omega⟩) ?_) (by decide)) ?_ (by decide) (by decide) (fun es hs e he => gs_name (by simp)) ?_) eau_nil) ?_) eau_nil)) ?_)) (by decide)) ?_
    · exact fun d h => take_nat (M := 100) (by omega) h
    · rintro es ⟨N, hN, rfl⟩
      rw [rngD_len]
      exact hN
    · rintro es _ e _ o
      refine eu_imp (eu_tup (eau_cons (eu_call (ea_cons (ev_var (by rfl)) ea_nil) rfl ⟨m, rfl, m1, by omega⟩) (eau_cons (eu_call (ea_cons (ev_op (ev_var (by rfl)) ev_int od_add) ea_nil) rfl ⟨letters + 1, rfl, by omega, by omega⟩) eau_nil)) ?_) ?_
      · rintro es ⟨d, r, rfl, _, d2, r2, rfl, _, rfl⟩
        show 2 ≤ sizeLine
        decide
      · rintro x ⟨es, rfl, d, r, rfl, h1, d2, r2, rfl, h2, rfl⟩
        obtain ⟨a, rfl, b1, b2⟩ := take_int h1
        obtain ⟨b, rfl, b3, b4⟩ := take_int h2
        exact ⟨a, b, rfl, b1, b2, b3, by omega⟩
    · rintro es ⟨d, r, rfl, ⟨es, os, ⟨N, hN, rfl⟩, rfl, hl, hx⟩, rfl⟩
      obtain ⟨cs, rfl, hlen, hc⟩ := chgs_of hx
      rw [rngD_len] at hl
      exact ⟨.tuple (cs.map chg), ⟨cs, rfl, by omega, hc⟩, cb_tupL⟩
    · rintro es ⟨d, r, rfl, _, d2, r2, rfl, _, rfl⟩
      show 2 ≤ sizeLine
      decide
    · rintro d ⟨es, rfl, d1, r, rfl, rfl, d2, r2, rfl, ⟨cs, rfl, hlen, hc⟩, rfl⟩
      exact ⟨m, cs, rfl, m1, m2, by omega, fun p hp => ⟨(hc p hp).1, (hc p hp).2.1, (hc p hp).2.2.1, by have := (hc p hp).2.2.2; omega⟩⟩
end
end K2

namespace Ph
open PySem PySem.Spec PyProof.Rows L2

/-! ### data without lists: they stand whatever happens to lists -/
def fz : Nat → PyData → Prop
  | 0, d => scalD d = true
  | n + 1, .tuple es => ∀ e ∈ es, fz n e
  | _ + 1, d => scalD d = true
def Fz (d : PyData) : Prop := ∃ n, fz n d
theorem fz_scal {d : PyData} (h : scalD d = true) : Fz d := ⟨0, h⟩
theorem fz_nums {ns : List Int} : Fz (nums ns) := ⟨1, fun e he => by
  obtain ⟨i, _, rfl⟩ := List.mem_map.mp he
  rfl⟩
theorem fz_chg {p : Int × Int} : Fz (chg p) := ⟨1, fun e he => by
  simp only [List.mem_cons, List.not_mem_nil, or_false] at he
  rcases he with rfl | rfl <;> rfl⟩
/-- the tuples of G stand in G' -/
def TK (K : PySem.W.Frag) (G G' : Hp) : Prop := ∀ a xs, SqT K G a xs → SqT K G' a xs
theorem dd_fz {K : PySem.W.Frag} {G G' : Hp} (t : TK K G G') : ∀ (n : Nat) {v : V} {d : PyData}, fz n d → DD K G v d → DD K G' v d
  | 0, v, d, h, x => dd_flat x h
  | n + 1, v, d, h, x => by
    cases x with
    | non => exact .non
    | bl b => exact .bl b
    | int i => exact .int i
    | str y => exact .str y
    | lst _ _ => cases h
    | dct _ _ => cases h
    | @tup a xs ds q r =>
      refine .tup (t _ _ q) ?_
      replace h : ∀ e ∈ ds, fz n e := h
      clear q
      induction ds generalizing xs with
      | nil => cases r; exact .nil
      | cons d ds ih =>
        cases r with
        | cons r1 r2 => exact .cons (dd_fz t n (h _ List.mem_cons_self) r1) (ih r2 fun e m => h e (List.mem_cons_of_mem _ m))
theorem tk_hide {K : PySem.W.Frag} {H : Hp} {o o' : List Addr} (W : Owned H o') : TK K (hide H o) (hide H o') := fun a xs h => by
  rcases h with (h | ⟨ob, h⟩) | h
  · have e := (hide_some h).2
    exact .inl (.inl (by rw [hide_out (owned_ne W e fun z => z)]; exact e))
  · have e := (hide_some h).2
    exact .inl (.inr ⟨ob, by rw [hide_out (owned_ne W e fun z => z)]; exact e⟩)
  · exact .inr h

/-! ### mutable lists and dicts: slots M, at addresses ps -/
/-- what a mutable holds: a list's data; a dict's -/
inductive MC where
  | l (es : List PyData)
  | d (ms : List (PyData × PyData))
  | f (p : Addr) (x : HO)
inductive Ob (K : PySem.W.Frag) (G : Hp) : Addr → HO → MC → Prop
  | l {p : Addr} {vs : List V} {es : List PyData} : DDs K G vs es → Ob K G p (.lst vs) (.l es)
  | d {p : Addr} {kvs : List (Key × V)} {ms : List (PyData × PyData)} : DKs K G kvs ms → Ob K G p (.dK kvs) (.d ms)
  | f {p : Addr} {x : HO} : Aside x → Ob K G p x (.f p x)
section
variable {K : PySem.W.Frag} {G G' : Hp}
theorem Ob.mono {p : Addr} {x : HO} {c : MC} (g : Ex G G') (h : Ob K G p x c) : Ob K G' p x c := by
  cases h with
  | l t => exact .l (t.mono g)
  | d t => exact .d (t.mono g)
  | f t => exact .f t
theorem Ob.aside {p : Addr} {x : HO} {c : MC} (h : Ob K G p x c) : Aside x := by
  cases h <;> first | exact True.intro | assumption
end
abbrev ML := List (Nat × MC)
inductive Mu (K : PySem.W.Frag) (G H : Hp) (σ : L2.St) (B : Hp) (o : List Addr) : ML → List Addr → Prop
  | nil : Mu K G H σ B o [] []
  | cons {i : Nat} {c : MC} {p : Addr} {x : HO} {M : ML} {ps : List Addr} : σ[i]? = some (some (.ref p)) → H p = some x → Ob K G p x c → B p = none → p ∉ o → Mu K G H σ B o M ps → Mu K G H σ B o ((i, c) :: M) (p :: ps)
section
variable {K : PySem.W.Frag} {G G' H H' : Hp} {σ : L2.St} {B : Hp} {o : List Addr}
theorem Mu.at : ∀ {M : ML} {ps : List Addr} {k i : Nat} {c : MC}, Mu K G H σ B o M ps → M[k]? = some (i, c) → ∃ p x, ps[k]? = some p ∧ σ[i]? = some (some (.ref p)) ∧ H p = some x ∧ Ob K G p x c ∧ B p = none ∧ p ∉ o
  | _, _, _, _, _, .nil, h => by simp at h
  | _, _, 0, _, _, .cons (p := p) (x := x) a b c d e _, h => by
    cases Option.some.inj h
    exact ⟨p, x, rfl, a, b, c, d, e⟩
  | _, _, k + 1, _, _, .cons _ _ _ _ _ r, h => by
    obtain ⟨p, x, q, z⟩ := Mu.at (k := k) r (by simpa using h)
    exact ⟨p, x, by simpa using q, z⟩
theorem Mu.own : ∀ {M : ML} {ps : List Addr}, Mu K G H σ B o M ps → ∀ a ∈ ps, ∃ x, H a = some x ∧ Aside x ∧ B a = none ∧ a ∉ o
  | _, _, .nil, a, h => by cases h
  | _, _, .cons (x := x) _ b c d e r, a, h => by
    rcases List.mem_cons.mp h with rfl | h
    · exact ⟨x, b, c.aside, d, e⟩
    · exact Mu.own r a h
theorem Mu.ex (e : Ex H H') (g : Ex G G') : ∀ {M : ML} {ps : List Addr}, Mu K G H σ B o M ps → Mu K G' H' σ B o M ps
  | _, _, .nil => .nil
  | _, _, .cons a b c d f r => .cons a (e _ _ b) (c.mono g) d f (Mu.ex e g r)
theorem Mu.keep (e : ∀ a ∈ (ps : List Addr), H' a = H a) (g : Ex G G') : ∀ {M : ML}, Mu K G H σ B o M ps → Mu K G' H' σ B o M ps := by
  intro M m
  induction m with
  | nil => exact .nil
  | cons a b c d f r ih => exact .cons a ((e _ List.mem_cons_self).trans b) (c.mono g) d f (ih fun a m => e a (List.mem_cons_of_mem _ m))
theorem Mu.slot {j : Nat} {x : Option V} : ∀ {M : ML} {ps : List Addr}, Mu K G H σ B o M ps → (∀ m ∈ M, m.1 ≠ j) → Mu K G H (σ.set j x) B o M ps
  | _, _, .nil, _ => .nil
  | _, _, .cons a b c d e r, h => .cons (by rw [List.getElem?_set_ne (Ne.symm (h _ List.mem_cons_self))]; exact a) b c d e (Mu.slot r fun m hm => h m (List.mem_cons_of_mem _ hm))
theorem Mu.slots {σ' : L2.St} : ∀ {M : ML} {ps : List Addr}, Mu K G H σ B o M ps → (∀ m ∈ M, σ'[m.1]? = σ[m.1]?) → Mu K G H σ' B o M ps
  | _, _, .nil, _ => .nil
  | _, _, .cons a b c d e r, h => .cons ((h _ List.mem_cons_self).trans a) b c d e (Mu.slots r fun m hm => h m (List.mem_cons_of_mem _ hm))
theorem Mu.base {B' : Hp} : ∀ {M : ML} {ps : List Addr}, Mu K G H σ B o M ps → (∀ a ∈ ps, B' a = none) → Mu K G H σ B' o M ps
  | _, _, .nil, _ => .nil
  | _, _, .cons a b c d e r, h => .cons a b c (h _ List.mem_cons_self) e (Mu.base r fun a m => h a (List.mem_cons_of_mem _ m))
theorem Mu.upd {x : HO} {c : MC} {p : Addr} (t : Ob K G p x c) : ∀ {M : ML} {ps : List Addr} {k i : Nat} {e0 : MC}, Mu K G H σ B o M ps → ps.Nodup → M[k]? = some (i, e0) → ps[k]? = some p → Mu K G (upd H p x) σ B o (M.set k (i, c)) ps
  | _, _, _, _, _, .nil, _, h, _ => by simp at h
  | _, _, 0, _, _, .cons (ps := ps) a b _ d e r, nd, h, h2 => by
    cases Option.some.inj h
    cases Option.some.inj h2
    exact .cons a upd_same t d e (r.keep (fun a m => upd_ne fun z => (List.nodup_cons.mp nd).1 (by rw [← z]; exact m)) (Same.refl _))
  | _, _, k + 1, _, _, .cons (p := q) (ps := ps) a b y d e r, nd, h, h2 => by
    have h2 : ps[k]? = some p := by simpa using h2
    have ne : q ≠ p := fun z => (List.nodup_cons.mp nd).1 (z ▸ List.mem_of_getElem? h2)
    exact .cons a (by rw [upd_ne ne]; exact b) y d e (Mu.upd t r (List.nodup_cons.mp nd).2 (by simpa using h) h2)
/-- the slots' data with the mutable lists -/
def fill (ds : List (Option PyData)) : ML → List (Option PyData)
  | [] => ds
  | (i, .l es) :: M => (fill ds M).set i (some (.list es))
  | (i, .d ms) :: M => (fill ds M).set i (some (.dict ms))
  | (_, .f _ _) :: M => fill ds M
theorem en_at {v : V} {d : PyData} {ds : List (Option PyData)} {i : Nat} (E : En K G σ ds) (h : σ[i]? = some (some v)) (x : DD K G v d) : En K G σ (ds.set i (some d)) := by
  have z := E.set x i
  have e : σ.set i (some v) = σ := by
    obtain ⟨l, e⟩ := List.getElem?_eq_some_iff.mp h
    rw [← e, List.set_getElem_self]
  rw [e] at z
  exact z
theorem Mu.fill {ds : List (Option PyData)} (g : Ex G G') (l : ∀ a x, a ∉ o → H a = some x → G' a = some x) : ∀ {M : ML} {ps : List Addr}, Mu K G H σ B o M ps → En K G' σ ds → En K G' σ (Ph.fill ds M) := by
  intro M ps m
  induction m with
  | nil => exact fun E => E
  | cons a b c d e r ih =>
    intro E
    cases c with
    | l t => exact en_at (ih E) a (.lst (l _ _ e b) (t.mono g))
    | d t => exact en_at (ih E) a (.dct (l _ _ e b) (t.mono g))
    | f t => exact ih E
end
structure MS (K : PySem.W.Frag) (B : Hp) (o : List Addr) (M : ML) (ps : List Addr) (σ : L2.St) (H : Hp) (ds : List (Option PyData)) : Prop where
  ex : Ex B (hide H o)
  ow : Owned H o
  en : En K (hide H (ps ++ o)) σ ds
  mu : Mu K (hide H (ps ++ o)) H σ B o M ps
  nd : ps.Nodup
section
variable {K : PySem.W.Frag} {B : Hp} {o ps : List Addr} {M M1 M2 : ML} {σ : L2.St} {H H' : Hp} {ds ds1 ds2 : List (Option PyData)} {ta tb te : TE} {d e : PyData}
theorem MS.owA (s : MS K B o M ps σ H ds) : Owned H (ps ++ o) := fun a ha => by
  rcases List.mem_append.mp ha with h | h
  · obtain ⟨x, e, y, _⟩ := s.mu.own a h
    exact ⟨x, e, y⟩
  · exact s.ow a h
theorem hide_app : Ex (hide H (ps ++ o)) (hide H o) := fun a x h => by
  obtain ⟨c, h⟩ := hide_some h
  rw [hide_out fun m => c (List.mem_append_right _ m)]
  exact h
theorem MS.full (s : MS K B o M ps σ H ds) : En K (hide H o) σ (fill ds M) :=
  s.mu.fill hide_app (fun a x n h => by rw [hide_out n]; exact h) (s.en.mono hide_app)
theorem MS.to (s : MS K B o M ps σ H ds) (e : Ex H H') : MS K B o M ps σ H' ds :=
  ⟨s.ex.trans (ex_hide e), ow_mono s.ow e, s.en.mono (ex_hide e), s.mu.ex e (ex_hide e), s.nd⟩
theorem MS.set (s : MS K B o M ps σ H ds) {v : V} {i : Nat} (x : DD K (hide H (ps ++ o)) v e) (hi : ∀ m ∈ M, m.1 ≠ i) : MS K B o M ps (σ.set i (some v)) H (ds.set i (some e)) :=
  ⟨s.ex, s.ow, s.en.set x i, s.mu.slot hi, s.nd⟩
theorem hide_upd {p : Addr} {x : HO} (h : p ∈ o) : hide (upd H p x) o = hide H o := by
  funext a
  by_cases c : a ∈ o
  · rw [hide_in c, hide_in c]
  · rw [hide_out c, hide_out c, upd_ne fun z => c (by rw [z]; exact h)]
theorem MS.put (s : MS K B o M ps σ H ds) {k i : Nat} {c0 c : MC} {x : HO} {p : Addr} (hk : M[k]? = some (i, c0)) (hp : ps[k]? = some p) (t : Ob K (hide H (ps ++ o)) p x c) : MS K B o (M.set k (i, c)) ps σ (upd H p x) ds := by
  have hm : p ∈ ps := List.mem_of_getElem? hp
  have hh : hide (upd H p x) (ps ++ o) = hide H (ps ++ o) := hide_upd (List.mem_append_left _ hm)
  obtain ⟨x0, q, _, b, n⟩ := s.mu.own p hm
  refine ⟨fun a y h => ?_, fun a ha => ?_, by rw [hh]; exact s.en, by rw [hh]; exact s.mu.upd t s.nd hk hp, s.nd⟩
  · have z := s.ex a y h
    obtain ⟨c, z⟩ := hide_some z
    rw [hide_out c, upd_ne (ne_of_none h b)]
    exact z
  · obtain ⟨z, e, y⟩ := s.ow a ha
    exact ⟨z, by rw [upd_ne (fun z => n (by rw [← z]; exact ha))]; exact e, y⟩
/-- a list becomes data -/
theorem Mu.drop {G : Hp} : ∀ {M : ML} {ps : List Addr} (k : Nat), Mu K G H σ B o M ps → Mu K G H σ B o (M.eraseIdx k) (ps.eraseIdx k)
  | _, _, _, .nil => .nil
  | _, _, 0, .cons a b c d e r => r
  | _, _, k + 1, .cons a b c d e r => .cons a b c d e (Mu.drop k r)
theorem MS.give (s : MS K B o M ps σ H ds) {k i : Nat} {es : List PyData} (hk : M[k]? = some (i, .l es)) : MS K B o (M.eraseIdx k) (ps.eraseIdx k) σ H (ds.set i (some (.list es))) := by
  obtain ⟨p, x, hp, hs, hv, t, b, n⟩ := s.mu.at hk
  obtain ⟨t⟩ := t
  have g : Ex (hide H (ps ++ o)) (hide H (ps.eraseIdx k ++ o)) := fun a x h => by
    obtain ⟨c, h⟩ := hide_some h
    rw [hide_out fun m => c ?_]
    · exact h
    · rcases List.mem_append.mp m with m | m
      · exact List.mem_append_left _ (List.mem_of_mem_eraseIdx m)
      · exact List.mem_append_right _ m
  have pn : p ∉ ps.eraseIdx k ++ o := fun m => by
    rcases List.mem_append.mp m with m | m
    · obtain ⟨l, e⟩ := List.getElem?_eq_some_iff.mp hp
      rw [← e] at m
      obtain ⟨j, hj, e2⟩ := List.mem_eraseIdx_iff_getElem.mp m
      obtain ⟨hj, e2⟩ := e2
      exact hj ((List.getElem_inj s.nd).mp e2)
    · exact n m
  refine ⟨s.ex, s.ow, en_at (s.en.mono g) hs (.lst (by rw [hide_out pn]; exact hv) (t.mono g)), (s.mu.ex (Same.refl _) g).drop k, s.nd.sublist (List.eraseIdx_sublist ..)⟩
end
end Ph

namespace Ph
open PySem PySem.Spec PyProof.Rows L2
section
variable {K : PySem.W.Frag} {o : List Addr} {M M1 M2 : ML} {ds ds1 ds2 : List (Option PyData)} {ta tb te : TE} {d e : PyData}
/-! ### expressions and tests beside mutable lists -/
def EvM (K : PySem.W.Frag) (o : List Addr) (M : ML) (te : TE) (ds : List (Option PyData)) (d : PyData) : Prop :=
  ∀ B ps σ H, MS K B o M ps σ H ds → ∀ Q : VK, (∀ v H2, MS K B o M ps σ H2 ds → Ex H H2 → DD K (hide H2 (ps ++ o)) v d → Q v H2) → te σ H Q
def EbM (K : PySem.W.Frag) (o : List Addr) (M : ML) (tt : TT) (ds : List (Option PyData)) (b : Bool) : Prop :=
  ∀ B ps σ H, MS K B o M ps σ H ds → ∀ Q : Bool → Hp → Prop, (∀ H2, MS K B o M ps σ H2 ds → Ex H H2 → Q b H2) → tt σ H Q
theorem em_pure (h : ∀ O, EvD K O te ds d) : EvM K o M te ds d := fun B ps σ H s Q q => h (ps ++ o) σ H s.en s.owA Q fun v H2 e2 W2 x => q v H2 (s.to e2) e2 x
theorem em_full (h : EvD K o te (fill ds M) d) (f : Fz d) : EvM K o M te ds d := fun B ps σ H s Q q => h σ H s.full s.ow Q fun v H2 e2 W2 x => by
  obtain ⟨n, f⟩ := f
  exact q v H2 (s.to e2) e2 (dd_fz (tk_hide (s.to e2).owA) n f x)
theorem bm_pure {t : TT} {b : Bool} (h : ∀ O, EvB K O t ds b) : EbM K o M t ds b := fun B ps σ H s Q q => h (ps ++ o) σ H s.en s.owA Q fun H2 e2 W2 => q H2 (s.to e2) e2
theorem bm_full {t : TT} {b : Bool} (h : EvB K o t (fill ds M) b) : EbM K o M t ds b := fun B ps σ H s Q q => h σ H s.full s.ow Q fun H2 e2 W2 => q H2 (s.to e2) e2
/-- a list that is laid anew -/
def EvF (K : PySem.W.Frag) (O : List Addr) (te : TE) (ds : List (Option PyData)) (es : List PyData) : Prop :=
  ∀ σ H, En K (hide H O) σ ds → Owned H O → ∀ Q : VK, (∀ p vs H1 H2, Ex H H1 → Owned H1 O → H1 p = none → H2 = upd H1 p (.lst vs) → DDs K (hide H1 O) vs es → Q (.ref p) H2) → te σ H Q
theorem ef_lst {t : TA} {es : List PyData} (h : EvA K o t ds es) (hl : es.length ≤ sizeLine) : EvF K o (tLst t) ds es := fun σ H E W Q q =>
  h σ H E W _ fun vs H1 e1 W1 xs => ⟨by rw [xs.length]; exact hl, fun p hp => q p vs H1 _ e1 W1 hp rfl xs⟩
theorem ef_cat {as bs : List PyData} (h1 : EvD K o ta ds (.list as)) (h2 : EvD K o tb ds (.list bs)) (hl : as.length + bs.length ≤ sizeLine) : EvF K o (tOp rCat ta tb) ds (as ++ bs) := fun σ H E W Q q =>
  h1 σ H E W _ fun v H1 e1 W1 x => h2 σ H1 (E.mono (ex_hide e1)) W1 _ fun u H2 e2 W2 y => by
    obtain ⟨a, xs, rfl, h, t⟩ := dd_lst (x.mono (ex_hide e2))
    obtain ⟨b, ys, rfl, h2, t2⟩ := dd_lst y
    exact ⟨a, b, xs, ys, rfl, rfl, (hide_some h).2, (hide_some h2).2, by rw [t.length, t2.length]; exact hl, fun p hp => q p _ H2 _ (e1.trans e2) W2 hp rfl (t.append t2)⟩
theorem dds_rep {G : Hp} {vs : List V} {es : List PyData} (t : DDs K G vs es) : ∀ n : Nat, DDs K G (List.replicate n vs).flatten (List.replicate n es).flatten
  | 0 => .nil
  | n + 1 => by
    rw [List.replicate_succ, List.replicate_succ, List.flatten_cons, List.flatten_cons]
    exact t.append (dds_rep t n)
theorem ef_rep {as : List PyData} {n : Int} (h1 : EvD K o ta ds (.list as)) (h2 : EvD K o tb ds (.int n)) (n1 : -(2 ^ 63) ≤ n) (n2 : n < 2 ^ 63) (hl : as.length * n.toNat ≤ sizeLine) : EvF K o (tOp rRep ta tb) ds (List.replicate n.toNat as).flatten := fun σ H E W Q q =>
  h1 σ H E W _ fun v H1 e1 W1 x => h2 σ H1 (E.mono (ex_hide e1)) W1 _ fun u H2 e2 W2 y => by
    obtain ⟨a, xs, rfl, h, t⟩ := dd_lst (x.mono (ex_hide e2))
    rw [dd_int y]
    exact ⟨a, n, xs, rfl, rfl, (hide_some h).2, n1, n2, by rw [t.length]; exact hl, fun p hp => q p _ H2 _ (e1.trans e2) W2 hp rfl (dds_rep t _)⟩
theorem ef_lstT {es : List PyData} {t : TE} (h : EvD K o t ds (.tuple es)) : EvF K o (tCB (rLstOf K) (tCons t tNil)) ds es := fun σ H E W Q q =>
  h σ H E W _ fun v H1 e1 W1 x => by
    obtain ⟨a, ys, rfl, hq, r⟩ := dd_tup x
    exact ⟨a, ys, rfl, .inr (ex_sqT hide_ex hq), fun l hl => q l _ H1 _ e1 W1 hl rfl r⟩
theorem ef_lstL {es : List PyData} {t : TE} (h : EvD K o t ds (.list es)) : EvF K o (tCB (rLstOf K) (tCons t tNil)) ds es := fun σ H E W Q q =>
  h σ H E W _ fun v H1 e1 W1 x => by
    obtain ⟨a, ys, rfl, hq, r⟩ := dd_lst x
    exact ⟨a, ys, rfl, .inl (SqL.of (hide_some hq).2), fun l hl => q l _ H1 _ e1 W1 hl rfl r⟩
theorem ev_new {es : List PyData} (h : EvF K o te ds es) : EvD K o te ds (.list es) := fun σ H E W Q q => h σ H E W Q fun p vs H1 H2 e1 W1 hp e2 t => by
  subst e2
  exact q _ _ (e1.trans (ex_new hp)) (ow_mono W1 (ex_new hp)) (.lst (hide_new W1 hp) (t.mono (ex_hide (ex_new hp))))
/-! ### statements -/
def MvN (K : PySem.W.Frag) (o : List Addr) (ts : TS) (M : ML) (ds : List (Option PyData)) (M' : ML) (ds' : List (Option PyData)) : Prop :=
  ∀ B (D : Ends) ps σ H, MS K B o M ps σ H ds → (∀ σ' H' ps', MS K B o M' ps' σ' H' ds' → D.nx σ' H') → ts D σ H
def MvR (K : PySem.W.Frag) (o : List Addr) (ts : TS) (M : ML) (ds : List (Option PyData)) (d : PyData) : Prop :=
  ∀ B (D : Ends) ps σ H, MS K B o M ps σ H ds → (∀ v H', Ex B (hide H' o) → Owned H' o → DD K (hide H' o) v d → D.rt v H') → ts D σ H
theorem mn_seq {t u : TS} (h : MvN K o t M ds M1 ds1) (h2 : MvN K o u M1 ds1 M2 ds2) : MvN K o (tSeq t u) M ds M2 ds2 := fun B D ps σ H s q =>
  h B _ ps σ H s fun σ1 H1 ps1 s1 => h2 B D ps1 σ1 H1 s1 q
theorem mr_seq {t u : TS} (h : MvN K o t M ds M1 ds1) (h2 : MvR K o u M1 ds1 d) : MvR K o (tSeq t u) M ds d := fun B D ps σ H s q =>
  h B _ ps σ H s fun σ1 H1 ps1 s1 => h2 B D ps1 σ1 H1 s1 q
theorem mn_nil : MvN K o tNext M ds M ds := fun B D ps σ H s q => q σ H ps s
theorem mn_set {i : Nat} (h : EvM K o M te ds e) (hi : ∀ m ∈ M, m.1 ≠ i) : MvN K o (tAsg te (gName i)) M ds M (ds.set i (some e)) := fun B D ps σ H s q =>
  h B ps σ H s _ fun v H1 s1 e1 x => q _ H1 ps (s1.set x hi)
theorem mn_asg {g : TG} (h : EvM K o M te ds e) {vs : List Nat} (hg : GsD K vs g ds e ds1) (hi : ∀ m ∈ M, m.1 ∉ vs) : MvN K o (tAsg te g) M ds M ds1 := fun B D ps σ H s q =>
  h B ps σ H s _ fun v H1 s1 e1 x => hg v σ H1 (ps ++ o) x s1.en _ fun σ' hs E' => q _ H1 ps ⟨s1.ex, s1.ow, E', by
    have key : ∀ {M : ML} {qs : List Addr}, Mu K (hide H1 (ps ++ o)) H1 σ B o M qs → (∀ m ∈ M, m.1 ∉ vs) → Mu K (hide H1 (ps ++ o)) H1 σ' B o M qs := by
      intro M qs m
      induction m with
      | nil => intro _; exact .nil
      | cons a b c d f r ih =>
        intro hz
        refine .cons ?_ b c d f (ih fun m hm => hz m (List.mem_cons_of_mem _ hm))
        have z := wipe_get (σ := σ') (hz _ List.mem_cons_self)
        rw [hs, wipe_get (hz _ List.mem_cons_self)] at z
        exact z.symm.trans a
    exact key s1.mu hi, s1.nd⟩
/-- a name for a list laid anew -/
theorem mn_new {i : Nat} {es : List PyData} (h : ∀ O, EvF K O te ds es) (hi : ∀ m ∈ M, m.1 ≠ i) (hl : i < ds.length) : MvN K o (tAsg te (gName i)) M ds ((i, .l es) :: M) (ds.set i none) := fun B D ps σ H s q =>
  h (ps ++ o) σ H s.en s.owA _ fun p vs H1 H2 e1 W1 hp e2 t => by
    subst e2
    have s2 := s.to (e1.trans (ex_new (x := .lst vs) hp))
    have np : p ∉ ps ++ o := ow_new W1 hp
    have g : Ex (hide H1 (ps ++ o)) (hide (upd H1 p (.lst vs)) ((p :: ps) ++ o)) := fun a x z => by
      obtain ⟨c, z⟩ := hide_some z
      have na := ne_of_none z hp
      rw [hide_out fun m => by rcases List.mem_cons.mp m with m | m; exact na m; exact c m, upd_ne na]
      exact z
    refine q _ _ (p :: ps) ⟨s2.ex, s2.ow, ((s.en.mono (ex_hide e1)).mono g).unset i, ?_, List.nodup_cons.mpr ⟨fun m => np (List.mem_append_left _ m), s.nd⟩⟩
    refine .cons ?_ upd_same (.l (t.mono g)) ?_ (fun m => np (List.mem_append_right _ m)) ?_
    · have ll : σ.length = ds.length := by
        have : ∀ {G : Hp} {σ : List (Option V)} {ds : List (Option PyData)}, En K G σ ds → σ.length = ds.length := by
          intro G σ ds E
          induction E with
          | nil => rfl
          | no _ ih => simp [ih]
          | yes _ _ ih => simp [ih]
        exact this s.en
      rw [List.getElem?_set_self (by omega)]
    · cases z : B p with
      | none => rfl
      | some x =>
        have y := e1 _ _ ((hide_some (s.ex p x z)).2)
        rw [hp] at y
        cases y
    · exact ((s.mu.ex e1 (ex_hide e1)).ex (ex_new hp) g).slot hi
theorem mn_forget {t : TS} (i : Nat) (h : MvN K o t M ds M1 ds1) : MvN K o t M ds M1 (ds1.set i none) := fun B D ps σ H s q =>
  h B D ps σ H s fun σ' H' ps' s' => q σ' H' ps' ⟨s'.ex, s'.ow, by
    have z := s'.en
    have key : ∀ {G : Hp} {σ : List (Option V)} {ds : List (Option PyData)} (i : Nat), En K G σ ds → En K G σ (ds.set i none) := by
      intro G σ ds i E
      induction E generalizing i with
      | nil => exact .nil
      | no r ih =>
        cases i with
        | zero => exact .no r
        | succ i => exact .no (ih i)
      | yes a r ih =>
        cases i with
        | zero => exact .no r
        | succ i => exact .yes a (ih i)
    exact key i z, s'.mu, s'.nd⟩
theorem mn_give {t : TS} {k i : Nat} {es : List PyData} (h : MvN K o t M ds M1 ds1) (hk : M1[k]? = some (i, .l es)) : MvN K o t M ds (M1.eraseIdx k) (ds1.set i (some (.list es))) := fun B D ps σ H s q =>
  h B D ps σ H s fun σ' H' ps' s' => q σ' H' _ (s'.give hk)
theorem mn_append {k i : Nat} {es : List PyData} (hk : M[k]? = some (i, .l es)) (h : EvM K o M te ds e) (hl : es.length < sizeLine) : MvN K o (tDrop (tBM K "list" rAppend (tVar i) (tCons te tNil))) M ds (M.set k (i, .l (es ++ [e]))) ds := fun B D ps σ H s q => by
  obtain ⟨p, x0, hp, hs, hv, t, b, n⟩ := s.mu.at hk
  cases t with | @l vs _ t => ?_
  refine ⟨.ref p, hs, .inl ⟨rfl, vs, SqL.of hv⟩, ?_⟩
  refine h B ps σ H s _ fun v H1 s1 e1 x => ⟨p, vs, v, rfl, rfl, e1 _ _ hv, by rw [t.length]; exact hl, ?_⟩
  exact q _ _ ps (s1.put hk hp (.l ((t.mono (ex_hide e1)).append (.cons x .nil))))
theorem mn_item {k i j : Nat} {es : List PyData} {ti : TE} {n : Int} (hk : M[k]? = some (i, .l es)) (h : EvM K o M te ds e) (h2 : EvM K o M ti ds (.int n)) (hj : ixN es.length n = some j) : MvN K o (tAsg te (gSub (tVar i) ti rSetL)) M ds (M.set k (i, .l (es.set j e))) ds := fun B D ps σ H s q => by
  obtain ⟨p, x0, hp, hs, hv, t, b, nn⟩ := s.mu.at hk
  cases t with | @l vs _ t => ?_
  refine h B ps σ H s _ fun v H1 s1 e1 x => ⟨.ref p, hs, ?_⟩
  refine h2 B ps σ H1 s1 _ fun u H2 s2 e2 y => ⟨p, vs, n, j, rfl, dd_int y, e2 _ _ (e1 _ _ hv), by rw [t.length]; exact hj, ?_⟩
  exact q _ _ ps (s2.put hk hp (.l ((t.mono (ex_hide (e1.trans e2))).set (x.mono (ex_hide e2)) j)))
theorem dropLast_take {α : Type} (l : List α) : l.dropLast = l.take (l.length - 1) := List.dropLast_eq_take
theorem mn_pop {k i : Nat} {es : List PyData} (hk : M[k]? = some (i, .l es)) (hl : 0 < es.length) : MvN K o (tDrop (tBM0 K "list" rPop (tVar i))) M ds (M.set k (i, .l es.dropLast)) ds := fun B D ps σ H s q => by
  obtain ⟨p, x0, hp, hs, hv, t, b, n⟩ := s.mu.at hk
  cases t with | @l vs _ t => ?_
  have l := t.length
  refine ⟨.ref p, hs, .inl ⟨rfl, vs, SqL.of hv⟩, p, vs, vs[vs.length - 1]'(by omega), rfl, rfl, hv, List.getElem?_eq_getElem (by omega), ?_⟩
  refine q _ _ ps (s.put hk hp (.l ?_))
  rw [dropLast_take, dropLast_take, l]
  exact t.take _
theorem mn_if {c : TT} {t u : TS} {b : Bool} (h : EbM K o M c ds b) (h1 : b = true → MvN K o t M ds M1 ds1) (h2 : b = false → MvN K o u M ds M1 ds1) : MvN K o (tIfS c t u) M ds M1 ds1 := fun B D ps σ H s q =>
  h B ps σ H s _ fun H1 s1 e1 => by
    cases b with
    | true =>
      refine iteT ?_
      exact h1 rfl B D ps σ H1 s1 q
    | false =>
      refine iteF ?_
      exact h2 rfl B D ps σ H1 s1 q
theorem mr_if {c : TT} {t u : TS} {b : Bool} (h : EbM K o M c ds b) (h1 : b = true → MvR K o t M ds d) (h2 : b = false → MvR K o u M ds d) : MvR K o (tIfS c t u) M ds d := fun B D ps σ H s q =>
  h B ps σ H s _ fun H1 s1 e1 => by
    cases b with
    | true =>
      refine iteT ?_
      exact h1 rfl B D ps σ H1 s1 q
    | false =>
      refine iteF ?_
      exact h2 rfl B D ps σ H1 s1 q
theorem mr_now {t u : TS} (h : MvR K o t M ds d) : MvR K o (tSeq t u) M ds d := fun B D ps σ H s q => h B _ ps σ H s q
theorem mr_ifRet {c : TT} {t u : TS} {b : Bool} (h : EbM K o M c ds b) (h1 : b = true → MvR K o t M ds d) (h2 : b = false → MvR K o u M ds d) : MvR K o (tSeq (tIfS c t tNext) u) M ds d := fun B D ps σ H s q =>
  h B ps σ H s _ fun H1 s1 e1 => by
    cases b with
    | true =>
      refine iteT ?_
      exact h1 rfl B _ ps σ H1 s1 q
    | false =>
      refine iteF ?_
      exact h2 rfl B D ps σ H1 s1 q
/-- return, lists read or not -/
theorem mr_ret (h : EvD K o te (fill ds M) d) : MvR K o (tRet te) M ds d := fun B D ps σ H s q =>
  h σ H s.full s.ow _ fun v H2 e2 W2 x => q v H2 (s.ex.trans (ex_hide e2)) W2 x
theorem mr_to {t : TS} (h : MvR K o t M ds d) (q : d = e) : MvR K o t M ds e := q ▸ h
/-- the slots that are lists at a state -/
theorem MS.base {B B' : Hp} {ps : List Addr} {σ : L2.St} {H : Hp} (s : MS K B o M ps σ H ds) (e : Ex B' B) : MS K B' o M ps σ H ds :=
  ⟨e.trans s.ex, s.ow, s.en, s.mu.base fun a m => by
    obtain ⟨_, _, _, b, _⟩ := s.mu.own a m
    exact e.free b, s.nd⟩
theorem MS.inner {B : Hp} {ps : List Addr} {σ : L2.St} {H : Hp} (s : MS K B o M ps σ H ds) : Ex B (hide H (ps ++ o)) ∧ MS K (hide H (ps ++ o)) o M ps σ H ds := by
  refine ⟨fun a x h => ?_, hide_app, s.ow, s.en, s.mu.base fun a m => hide_in (List.mem_append_left _ m), s.nd⟩
  have z := s.ex a x h
  obtain ⟨c, z⟩ := hide_some z
  rw [hide_out fun m => ?_]
  · exact z
  · rcases List.mem_append.mp m with m | m
    · obtain ⟨_, _, _, b, _⟩ := s.mu.own a m
      rw [h] at b
      cases b
    · exact c m
/-- a for: Im, Id by turns; the mutable lists may be reborn within -/
theorem for_mutG {wi : TI} {g : TG} {tb : TS} {es : List PyData} {B : Hp} {D : Ends} {ps : List Addr} {σ : L2.St} {H : Hp} (Im : Nat → ML) (Id : Nat → List (Option PyData)) (Ok : Nat → Prop) (hi : ∀ R : It → Hp → Prop, (∀ J H2, Ex H H2 → Owned H2 (ps ++ o) → ItD K (hide H2 (ps ++ o)) J es → R J H2) → wi σ H R) (s : MS K B o (Im 0) ps σ H (Id 0)) (ok0 : Ok 0)
    (ht : ∀ i e, es[i]? = some e → Ok i → ∃ dm vs, GsD K vs g (Id i) e dm ∧ (∀ m ∈ Im i, m.1 ∉ vs) ∧ ∀ B' ps σ2 H2 (D' : Ends), Ex B B' → D'.rt = D.rt → D'.bk = D.nx → MS K B' o (Im i) ps σ2 H2 dm → (∀ σ' H' ps', Ok (i + 1) → MS K B' o (Im (i + 1)) ps' σ' H' (Id (i + 1)) → D'.nx σ' H') → tb D' σ2 H2)
    (hn : ∀ σ' H' ps', Ok es.length → MS K B o (Im es.length) ps' σ' H' (Id es.length) → D.nx σ' H') : tFor wi g tb D σ H := by
  refine for_dataG (D := D) hi (fun H1 i σ' H' => Ok i ∧ ∃ ps', MS K (hide H1 (ps ++ o)) o (Im i) ps' σ' H' (Id i)) (fun H1 e1 W1 => ⟨ok0, ps, (s.to e1).inner.2⟩) ?_
  intro H1 e1 W1 i σ' H' p
  obtain ⟨ok, ps', s'⟩ := p
  have xb : Ex B (hide H1 (ps ++ o)) := (s.to e1).inner.1
  refine ⟨ps' ++ o, s'.inner.1, s'.owA, fun e he x H2 e2 hx => ?_, fun hl => ?_⟩
  · obtain ⟨dm, vs, hg, hv, turn⟩ := ht i e he ok
    have s2 := s'.to e2
    refine hg x σ' H2 (ps' ++ o) hx s2.en _ fun σ2 hσ E2 => ?_
    have mu2 : Mu K (hide H2 (ps' ++ o)) H2 σ2 (hide H1 (ps ++ o)) o (Im i) ps' := by
      have key : ∀ {M : ML} {qs : List Addr}, Mu K (hide H2 (ps' ++ o)) H2 σ' (hide H1 (ps ++ o)) o M qs → (∀ m ∈ M, m.1 ∉ vs) → Mu K (hide H2 (ps' ++ o)) H2 σ2 (hide H1 (ps ++ o)) o M qs := by
        intro M qs m
        induction m with
        | nil => intro _; exact .nil
        | cons a b c d f r ih =>
          intro hz
          refine .cons ?_ b c d f (ih fun m hm => hz m (List.mem_cons_of_mem _ hm))
          have z := wipe_get (σ := σ2) (hz _ List.mem_cons_self)
          rw [hσ, wipe_get (hz _ List.mem_cons_self)] at z
          exact z.symm.trans a
      exact key s2.mu hv
    exact turn _ ps' σ2 H2 _ xb rfl rfl ⟨s2.ex, s2.ow, E2, mu2, s2.nd⟩ fun σ4 H4 ps4 k s4 => ⟨k, ps4, s4⟩
  · subst hl
    exact hn σ' H' ps' ok (s'.base xb)
/-- a for: Im, Id by turns; the mutable lists may be reborn within -/
theorem for_mut {wi : TI} {g : TG} {tb : TS} {es : List PyData} {B : Hp} {D : Ends} {ps : List Addr} {σ : L2.St} {H : Hp} (Im : Nat → ML) (Id : Nat → List (Option PyData)) (Ok : Nat → Prop) (hi : ∀ O, EvI K O wi (Id 0) es) (s : MS K B o (Im 0) ps σ H (Id 0)) (ok0 : Ok 0)
    (ht : ∀ i e, es[i]? = some e → Ok i → ∃ dm vs, GsD K vs g (Id i) e dm ∧ (∀ m ∈ Im i, m.1 ∉ vs) ∧ ∀ B' ps σ2 H2 (D' : Ends), Ex B B' → D'.rt = D.rt → D'.bk = D.nx → MS K B' o (Im i) ps σ2 H2 dm → (∀ σ' H' ps', Ok (i + 1) → MS K B' o (Im (i + 1)) ps' σ' H' (Id (i + 1)) → D'.nx σ' H') → tb D' σ2 H2)
    (hn : ∀ σ' H' ps', Ok es.length → MS K B o (Im es.length) ps' σ' H' (Id es.length) → D.nx σ' H') : tFor wi g tb D σ H :=
  for_mutG Im Id Ok (fun R r => hi (ps ++ o) σ H s.en s.owA R r) s ok0 ht hn
theorem mn_for {wi : TI} {g : TG} {tb : TS} {es : List PyData} (Im : Nat → ML) (Id : Nat → List (Option PyData)) (hi : ∀ O, EvI K O wi (Id 0) es)
    (ht : ∀ i e, es[i]? = some e → ∃ dm vs, GsD K vs g (Id i) e dm ∧ (∀ m ∈ Im i, m.1 ∉ vs) ∧ MvN K o tb (Im i) dm (Im (i + 1)) (Id (i + 1))) : MvN K o (tFor wi g tb) (Im 0) (Id 0) (Im es.length) (Id es.length) := fun B D ps σ H s q =>
  for_mut Im Id (fun _ => True) hi s True.intro (fun i e he _ => by
    obtain ⟨dm, vs, hg, hv, h⟩ := ht i e he
    exact ⟨dm, vs, hg, hv, fun B' ps σ2 H2 D' _ _ _ s2 k => h B' D' ps σ2 H2 s2 fun σ' H' ps' s' => k σ' H' ps' True.intro s'⟩) fun σ' H' ps' _ s' => q σ' H' ps' s'
/-- a for one of whose turns may return d; then the rest -/
theorem mr_for {wi : TI} {g : TG} {tb u : TS} {es : List PyData} (Im : Nat → ML) (Id : Nat → List (Option PyData)) (stop : Nat → Bool) (hi : ∀ O, EvI K O wi (Id 0) es)
    (ht : ∀ i e, es[i]? = some e → (∀ j, j < i → stop j = false) → ∃ dm vs, GsD K vs g (Id i) e dm ∧ (∀ m ∈ Im i, m.1 ∉ vs) ∧ (stop i = true → MvR K o tb (Im i) dm d) ∧ (stop i = false → MvN K o tb (Im i) dm (Im (i + 1)) (Id (i + 1))))
    (hu : (∀ i, i < es.length → stop i = false) → MvR K o u (Im es.length) (Id es.length) d) : MvR K o (tSeq (tFor wi g tb) u) (Im 0) (Id 0) d := fun B D ps σ H s q =>
  for_mut (D := { D with nx := u D }) Im Id (fun i => ∀ j, j < i → stop j = false) hi s (fun j hj => absurd hj (Nat.not_lt_zero _)) (fun i e he ok => by
    obtain ⟨dm, vs, hg, hv, h1, h2⟩ := ht i e he ok
    refine ⟨dm, vs, hg, hv, fun B' ps σ2 H2 D' xb er _ s2 k => ?_⟩
    cases cs : stop i with
    | true =>
      refine h1 cs B' D' ps σ2 H2 s2 fun v H' x W y => ?_
      rw [er]
      exact q v H' (xb.trans x) W y
    | false =>
      refine h2 cs B' D' ps σ2 H2 s2 fun σ' H' ps' s' => k σ' H' ps' (fun j hj => ?_) s'
      by_cases z : j < i
      · exact ok j z
      · have : j = i := by omega
        rw [this]
        exact cs) fun σ' H' ps' ok s' => hu ok B D ps' σ' H' s' q
end
section
variable {P : Program} {w : World} {K : PySem.W.Frag} {mg : Str → Option Value} {base : Heap}
theorem fn_mut {x qual : Str} {st : Stmt} {f : Addr} {fd : FuncData} {N ps : List Str} {k n : Nat} {R : List PyData → PyData → Prop} (F : Fun K x qual st f fd) (S : FnScope N ps (defScope st)) (hn : ps.length = n)
    (hbody : ∀ (cdv : Value) (A : Around) (outer : List Env) (s : Shared) (H : Hp) (E : XK), Room k (A.deeper (envOfC qual (defScope st) s.heap.objs.size f cdv)) →
      ∃ t, PSs (cxOf CX0 P w K mg base N qual (defScope st) f cdv A outer s H E).nox (defBody st) t ∧ ∀ as d, as.length = n → R as d → MvR K [] t [] (startD N as) d) : FnOk P w K mg base CX0 (k + 1) f fd ps (spD K n R) := by
  refine F.ok S (fun vs H Q E h => ?_) (fun cdv A outer s H vs Q E hr h => ?_)
  · obtain ⟨as, d, h, hl, _⟩ := h
    rw [h.length, hl, hn]
  · obtain ⟨as, d, h, hl, hR, q⟩ := h
    obtain ⟨t, hp, hv⟩ := hbody cdv A outer s H E hr
    refine ⟨t, hp, ?_⟩
    have z : start N vs = vs.map some ++ List.replicate (N.length - vs.length) none := rfl
    rw [z, h.length]
    refine hv as d hl hR H _ [] _ H ⟨by rw [hide_nil]; exact Same.refl _, own0, by rw [List.append_nil, hide_nil]; exact en_start _ h, .nil, List.nodup_nil⟩ fun v H' e W x => ?_
    rw [hide_nil] at x e
    exact q v H' e x
end
end Ph

namespace Ph
open PySem PySem.Spec PyProof.Rows L2
/-- a tuple, taken once, is itself -/
theorem tuple_once (l : Addr) (items : Array Value) (n : Nat) (dd : Option Addr) (sl : Array (Option Value)) (u : Tok) :
    Meets (Builtin.«tuple.__mul__» ⟨[.ref l, .int 1 u], []⟩) (fun _ R s => s.heap.get? l = some { cls := .type "tuple", dict := dd, data := .seq items n, slots := sl } ∧ R (.ok (.ret (Value.ref l))) s) :=
  .of_wp fun prog w A R s h => by
    obtain ⟨hp, g, d, tk, os⟩ := s
    obtain ⟨hl, h⟩ := h
    have f1 := AutoSeq1.idx_int
    have c0 : (decide ((1 : Int) < -(2 ^ 63)) || decide ((1 : Int) ≥ 2 ^ 63)) = false := by decide
    wp_walk using wpAny_loadPart' hl
    exact ⟨_, rfl, h⟩
/-- a tuple times an int from 1 -/
def rRepA (K : PySem.W.Frag) : R2 := fun x y H Q => ∃ l k xs, x = .ref l ∧ y = .int k ∧ SqT K H l xs ∧ xs ≠ [] ∧ 1 ≤ k ∧ k ≤ 1000 ∧ xs.length ≤ 1000 ∧ (k = 1 → Q (.ref l) H) ∧ (2 ≤ k → ∀ p, H p = none → Q (.ref p) (upd H p (.tup (List.replicate k.toNat xs).flatten)))
theorem op_repA {X : Cx} : OpR X (binaryOp .Mult) (rRepA X.K) := by
  intro pins s σ H x y v u Q I rx ry h
  obtain ⟨l, k, xs, rfl, rfl, hT, hne, h1, h2, hz, q1, q2⟩ := h
  by_cases c : k = 1
  · subst c
    cases rx
    obtain ⟨t, rfl⟩ := ry
    obtain ⟨its, r, ⟨⟨cls, dd, data, sl⟩, ho, hc, n, hd⟩, hs⟩ := I.tuple hT
    simp only at hc hd
    subst hc hd
    exact wpAny_binaryOp_repeat_ref (T := "tuple") (U := "int") (by decide) ⟨_, ho, rfl⟩ (fun s' => typeIs_int s' 1 t) noFill_tuple_mul F.fills_int_mul F.slot_int_rmul repeat_tuple F.slot_int_index.lookup
      (call_meets F.slot_int_rmul (typeIs_int s 1 t) F.entry_int_rmul (F.args_int_rmul_2 _ _) (int_rmul_tuple 1 t l its.toArray n dd sl)
        ⟨ho, rfl, ⟨_, ho, rfl⟩, call_meets F.slot_tuple_mul ⟨_, ho, rfl⟩ F.entry_tuple_mul (F.args_tuple_mul_2 _ _) (tuple_once l its.toArray n dd sl t) ⟨ho, ⟨.ref l, H, I, rfl, q1 rfl⟩⟩⟩)
  · exact op_repT pins s σ H _ _ _ _ Q I rx ry ⟨l, k, xs, rfl, rfl, hT, hne, by omega, h2, hz, q2 (by omega)⟩
section
variable {K : PySem.W.Frag} {o : List Addr} {ds : List (Option PyData)} {ta tb te : TE} {d e : PyData}
theorem od_repA {as : List PyData} {k : Int} (h0 : as ≠ []) (h1 : 1 ≤ k) (h2 : k ≤ 1000) (hl : as.length ≤ 1000) : OpD K o (rRepA K) (.tuple as) (.int k) (.tuple (List.replicate k.toNat as).flatten) := fun x y H W hx hy Q q => by
  obtain ⟨a, xs, rfl, h, t⟩ := dd_tup hx
  rw [dd_int hy]
  have l := t.length
  refine ⟨a, k, xs, rfl, rfl, ex_sqT hide_ex h, fun z => h0 (List.eq_nil_of_length_eq_zero (by rw [← l, z]; rfl)), h1, h2, by omega, fun c => ?_, fun _ p hp => ?_⟩
  · subst c
    refine q _ H (Same.refl H) W ?_
    have e : (List.replicate (1 : Int).toNat as).flatten = as := List.append_nil as
    rw [e]
    exact .tup h t
  · exact q _ _ (ex_new hp) (ow_mono W (ex_new hp)) (.tup (SqT.of (hide_new W hp)) ((dds_rep t _).mono (ex_hide (ex_new hp))))
/-- tuple of one number, taken k times; a list of one number, too -/
theorem flat_one {α : Type} (x : α) : ∀ n : Nat, (List.replicate n [x]).flatten = List.replicate n x
  | 0 => rfl
  | n + 1 => by
    rw [List.replicate_succ, List.replicate_succ, List.flatten_cons, flat_one x n]
    rfl
theorem mn_to {t : TS} {M M1 M2 : ML} {ds1 ds2 : List (Option PyData)} (h : MvN K o t M ds M1 ds1) (a : M1 = M2) (b : ds1 = ds2) : MvN K o t M ds M2 ds2 := a ▸ b ▸ h
theorem bm_to {t : TT} {M : ML} {a b : Bool} (h : EbM K o M t ds a) (e : a = b) : EbM K o M t ds b := e ▸ h
/-! slices -/
theorem dds_cut {G : Hp} {vs : List V} {es : List PyData} (t : DDs K G vs es) (lo hi : Option Int) : DDs K G (cutV vs lo hi) ((es.drop (HT.sIx es.length 0 lo)).take (HT.sIx es.length es.length hi - HT.sIx es.length 0 lo)) := by
  unfold cutV
  rw [t.length]
  exact (t.drop _).take _
/-- xs[i:], xs[:j], i and j numbers of the program -/
theorem ef_slLo {es : List PyData} {i : Int} (h : EvD K o ta ds (.list es)) (h2 : EvD K o tb ds (.int i)) : EvF K o (tSl (rSlL K) ta (tPart tb) tNoPart) ds ((es.drop (HT.sIx es.length 0 (some i))).take (HT.sIx es.length es.length none - HT.sIx es.length 0 (some i))) := fun σ H E W Q q =>
  h σ H E W _ fun v H1 e1 W1 x => h2 σ H1 (E.mono (ex_hide e1)) W1 _ fun u H2 e2 W2 y => ⟨i, dd_int y, by
    obtain ⟨a, ys, rfl, hq, t⟩ := dd_lst (x.mono (ex_hide e2))
    exact ⟨a, ys, rfl, SqL.of (hide_some hq).2, fun p hp => q p _ H2 _ (e1.trans e2) W2 hp rfl (dds_cut t _ _)⟩⟩
theorem ev_neg {i : Int} (h : EvD K o ta ds (.int i)) : EvD K o (tUn (rU fun i => .int (-i)) ta) ds (.int (-i)) := fun σ H E W Q q =>
  h σ H E W _ fun v H1 e1 W1 x => ⟨i, dd_int x, q _ H1 e1 W1 (.int _)⟩
theorem inV_ints (k : Int) : ∀ ns : List Int, inV (.int k) (ns.map V.int) = decide (k ∈ ns)
  | [] => rfl
  | n :: ns => by
    have ih := inV_ints k ns
    unfold inV at ih ⊢
    rw [List.map_cons, List.any_cons, ih]
    show ((n == k) || decide (k ∈ ns)) = _
    by_cases c : k = n
    · subst c
      simp
    · have c2 : (n == k) = false := beq_eq_false_iff_ne.mpr (Ne.symm c)
      rw [c2, Bool.false_or]
      exact decide_eq_decide.mpr ⟨fun h => List.mem_cons_of_mem _ h, fun h => by
        rcases List.mem_cons.mp h with h | h
        · exact absurd h c
        · exact h⟩
theorem flat_ints : ∀ ns : List Int, (ns.map V.int).all flatV = true
  | [] => rfl
  | n :: ns => by rw [List.map_cons, List.all_cons, flat_ints ns]; rfl
theorem od_notIn {k : Int} {ns : List Int} : OpD K o (rIn K true) (.int k) (.list (ns.map PyData.int)) (.bool (!decide (k ∈ ns))) := fun x y H W hx hy Q q => by
  obtain ⟨a, xs, rfl, h, t⟩ := dd_lst hy
  rw [dd_int hx]
  have e := dds_ints t
  subst e
  refine ⟨a, _, rfl, .inl (SqL.of (hide_some h).2), rfl, flat_ints ns, ?_⟩
  rw [if_pos rfl, inV_ints]
  exact q _ H (Same.refl H) W (.bl _)
theorem od_inI {k : Int} {ns : List Int} : OpD K o (rIn K false) (.int k) (.list (ns.map PyData.int)) (.bool (decide (k ∈ ns))) := fun x y H W hx hy Q q => by
  obtain ⟨a, xs, rfl, h, t⟩ := dd_lst hy
  rw [dd_int hx]
  have e := dds_ints t
  subst e
  refine ⟨a, _, rfl, .inl (SqL.of (hide_some h).2), rfl, flat_ints ns, ?_⟩
  rw [if_neg Bool.false_ne_true, inV_ints]
  exact q _ H (Same.refl H) W (.bl _)
theorem ef_slHi {es : List PyData} {i : Int} (h : EvD K o ta ds (.list es)) (h2 : EvD K o tb ds (.int i)) : EvF K o (tSl (rSlL K) ta tNoPart (tPart tb)) ds ((es.drop (HT.sIx es.length 0 none)).take (HT.sIx es.length es.length (some i) - HT.sIx es.length 0 none)) := fun σ H E W Q q =>
  h σ H E W _ fun v H1 e1 W1 x => h2 σ H1 (E.mono (ex_hide e1)) W1 _ fun u H2 e2 W2 y => ⟨i, dd_int y, by
    obtain ⟨a, ys, rfl, hq, t⟩ := dd_lst (x.mono (ex_hide e2))
    exact ⟨a, ys, rfl, SqL.of (hide_some hq).2, fun p hp => q p _ H2 _ (e1.trans e2) W2 hp rfl (dds_cut t _ _)⟩⟩
theorem cut_last {α : Type} (l : List α) : (l.drop (HT.sIx l.length 0 (some (-1)))).take (HT.sIx l.length l.length none - HT.sIx l.length 0 (some (-1))) = l.drop (l.length - 1) := by
  have e : HT.sIx l.length 0 (some (-1)) = l.length - 1 := by
    unfold HT.sIx
    simp
    omega
  have e2 : HT.sIx l.length l.length none = l.length := rfl
  rw [e, e2]
  exact List.take_of_length_le (by rw [List.length_drop]; omega)
end
end Ph

namespace K2
open PySem PySem.Spec PyProof.Rows L2 Ph
section
variable {P : Program} {w : World} {K : PySem.W.Frag} {mg : Str → Option Value} {base : Heap}

/-- a history that is one, with bounds -/
def Hist (m : Int) (cs : List (Int × Int)) : Prop := 1 ≤ m ∧ m ≤ 1000 ∧ cs.length ≤ 1000 ∧ ∀ p ∈ cs, 0 ≤ p.1 ∧ p.1 < m ∧ 0 ≤ p.2
def step (t : List Int) (p : Int × Int) : List Int := t.set p.1.toNat p.2
def zeros (m : Int) : List Int := List.replicate m.toNat 0
def play (t : List Int) (cs : List (Int × Int)) : List Int := cs.foldl step t
theorem play_len (cs : List (Int × Int)) : ∀ t : List Int, (play t cs).length = t.length := by
  induction cs with
  | nil => intro t; rfl
  | cons c cs ih =>
    intro t
    show (play (step t c) cs).length = _
    rw [ih]
    exact List.length_set
theorem play_next (t : List Int) (cs : List (Int × Int)) {i : Nat} {c : Int × Int} (h : cs[i]? = some c) : play t (cs.take (i + 1)) = step (play t (cs.take i)) c := by
  unfold play
  rw [List.take_add_one, h, List.foldl_append]
  rfl
theorem zeros_len {m : Int} (h : 1 ≤ m) : ((zeros m).length : Int) = m := by
  unfold zeros
  rw [List.length_replicate]
  omega
theorem ixN_in {n : Nat} {i : Int} (h0 : 0 ≤ i) (h1 : i < n) : ixN n i = some i.toNat := by
  unfold ixN
  rw [if_pos h0, if_pos h1]
abbrev s_text_behind : Stmt := top 12
abbrev N_text_behind : List Str := ["history", "many", "changes", "text", "place", "letter"]
theorem sc_text_behind : FnScope N_text_behind ["history"] (defScope s_text_behind) := ⟨rfl, rfl, rfl, by decide +kernel, rfl, by decide +kernel, by decide +kernel⟩
abbrev R_text_behind : List PyData → PyData → Prop := fun as d => ∃ m cs, as = [his m cs] ∧ Hist m cs ∧ d = nums (play (zeros m) cs)
theorem ok_text_behind {f : Addr} {fd : FuncData} (F : Fun K "text_behind" "text_behind" s_text_behind f fd) (T : Blt mg)  : FnOk P w K mg base CX0 1 f fd ["history"] (spD K 1 R_text_behind) := by
  refine fn_mut F sc_text_behind rfl fun cdv A outer s H E hr => ?_
  have hu64 : (A.deeper (envOfC "text_behind" (defScope s_text_behind) s.heap.objs.size f cdv)).units + 64 < cLine := hr.units
  refine ⟨_, (pss_cons (ps_asg (pv 0) (pg_tup rfl (pgs_cons (pg_name (i := 1) sc_text_behind.nd rfl (Or.inl rfl)) (pgs_cons (pg_name (i := 2) sc_text_behind.nd rfl (Or.inl rfl)) pgs_nil))))
      (pss_cons (ps_set (i := 3) sc_text_behind.nd rfl (Or.inl rfl) (pe_op op_rep (pe_lst (pa_cons pe_int pa_nil)) (pv 1)))
      (pss_cons (ps_for PassesOwn.never rfl (pi_tup (pv 2)) (pg_tup rfl (pgs_cons (pg_name (i := 4) sc_text_behind.nd rfl (Or.inl rfl)) (pgs_cons (pg_name (i := 5) sc_text_behind.nd rfl (Or.inl rfl)) pgs_nil))) (pss_one (ps_asg (pv 5) (pg_sub (pv 3) (pv 4) set_list))))
      (pss_one (ps_ret (pe_callTy call_tuple_of (by rfl) T.tuple (by decide +kernel) (pa_cons (pv 3) pa_nil))))))), fun as d hl hR => ?_⟩
  obtain ⟨m, cs, rfl, hh, rfl⟩ := hR
  obtain ⟨m1, m2, c1, c2⟩ := hh
  have nil0 : ∀ i : Nat, ∀ x ∈ ([] : ML), x.1 ≠ i := fun i x h => by cases h
  refine mr_seq (mn_asg (vs := [1, 2]) (em_pure fun O => ev_var (by rfl)) (gs_two (by simp) (by simp)) (fun x h => by cases h)) ?_
  refine mr_seq (mn_new (fun O => ef_rep (n := m) (ev_lst (ea_cons ev_int ea_nil) (by show 1 ≤ sizeLine; decide)) (ev_var (by rfl)) (by omega) (by omega) ?_) (nil0 3) (by show 3 < 6; decide)) ?_
  · show 1 * m.toNat ≤ sizeLine
    rw [sizeLine_eq]
    omega
  have e0 : (List.replicate m.toNat [PyData.int 0]).flatten = (zeros m).map PyData.int := by
    rw [flat_one]
    unfold zeros
    rw [List.map_replicate]
  rw [e0]
  refine mr_to (mr_seq (mn_for (es := cs.map chg) (fun i => [(3, .l ((play (zeros m) (cs.take i)).map PyData.int))]) (fun _ => [some (his m cs), some (.int m), some (.tuple (cs.map chg)), none, none, none]) (fun O => ei_tup (ev_var (by rfl))) fun i e he => ?_) (mr_ret (ev_cb (ea_cons (ev_var (by rfl)) ea_nil) cb_tupL))) ?_
  · rw [List.getElem?_map] at he
    cases z : cs[i]? with
    | none => rw [z] at he; cases he
    | some c =>
      rw [z] at he
      cases Option.some.inj he
      obtain ⟨d1, d2, d3⟩ := c2 c (List.mem_of_getElem? z)
      refine ⟨_, [4, 5], gs_two (by simp) (by simp), fun x h => by
        cases (List.mem_singleton.mp h)
        show (3 : Nat) ∉ [4, 5]
        decide, ?_⟩
      rw [play_next _ _ z]
      have q := mn_forget 4 (mn_forget 5 (mn_item (K := K) (o := []) (k := 0) (i := 3) (M := [(3, .l ((play (zeros m) (cs.take i)).map PyData.int))]) (ds := [some (his m cs), some (.int m), some (.tuple (cs.map chg)), none, some (.int c.1), some (.int c.2)]) (te := tVar 5) (ti := tVar 4) (e := .int c.2) (n := c.1) (j := c.1.toNat) rfl (em_pure fun O => ev_var (by rfl)) (em_pure fun O => ev_var (by rfl)) (ixN_in d1 (by rw [List.length_map, play_len, zeros_len m1]; exact d2))))
      unfold step
      rw [List.map_set]
      exact q
  · rw [List.length_map, List.take_length]

end
end K2

namespace K2
open PySem PySem.Spec PyProof.Rows L2 Ph
def initOf : Stmt → Stmt
  | .ClassDef _ _ _ b _ _ _ _ _ _ _ => b.getD 0 (.Pass ⟨0, 0, 0, 0⟩)
  | s => s
abbrev s_init : Stmt := initOf (top 1)
theorem sc_init : FnScope ["self", "place"] ["self", "place"] (defScope s_init) := ⟨rfl, rfl, rfl, by decide +kernel, rfl, by decide +kernel, by decide +kernel⟩
/-- what __init__ keeps -/
def spInit (K : PySem.W.Frag) : Sp := fun vs H Q _ => ∃ (a C : Addr) (y : V), vs = [.ref a, y] ∧ H a = some (exo a C none) ∧ LxC K C ∧ PySem.W.findIn K (.ref C) "place" = some none ∧
  ∀ dx, H dx = none → dx ≠ a → Q .non (upd (upd H dx (exd dx [("place", y)])) a (exo a C (some dx)))
section
variable {P : Program} {w : World} {K : PySem.W.Frag} {mg : Str → Option Value} {base : Heap}
theorem ok_init {f : Addr} {fd : FuncData} (F : Fun K "__init__" "NoPlace.__init__" s_init f fd) (hm : mg "LookupError" = none)
    (vV : PySem.W.findCls K (.type "LookupError") (.type "type") "__init__" = some (.val (.builtin "LookupError.__init__"))) : FnOk P w K mg base CX0 1 f fd ["self", "place"] (spInit K) := by
  refine F.ok sc_init (fun vs H Q E h => ?_) (fun cdv A outer s H vs Q E hr h => ?_)
  · obtain ⟨a, C, y, rfl, _⟩ := h
    rfl
  · obtain ⟨a, C, y, rfl, ha, T, no, q⟩ := h
    refine ⟨_, pss_cons (ps_expr (pe_lxInit (by rfl) hm vV (by decide +kernel) (pa_cons (pv 0) (pa_cons pe_str pa_nil)))) (pss_one (ps_lxF (pv 0) (pv 1))), ?_⟩
    refine ⟨.ref a, rfl, a, C, _, rfl, by decide, T, ha, ?_⟩
    exact ⟨y, rfl, .ref a, rfl, a, C, rfl, T, no, ha, q⟩
/-- what is needed of NoPlace -/
structure NP (K : PySem.W.Frag) (mg : Str → Option Value) (C fI : Addr) (fd : FuncData) : Prop where
  lx : LxC K C
  ini : PySem.W.findIn K (.ref C) "__init__" = some (some (.ref fI))
  ty : PySem.W.typeIn K (.ref fI) = some (.type "function")
  fn : Fun K "__init__" "NoPlace.__init__" s_init fI fd
  bi : Binds K fd ["self", "place"] []
  gl : mg "NoPlace" = some (.ref C)
  no : PySem.W.findIn K (.ref C) "place" = some none
  xf : XfC K C
  te : PySem.W.exmOne K (.ref C) (.ref C) = some true
  le : mg "LookupError" = none
  vV : PySem.W.findCls K (.type "LookupError") (.type "type") "__init__" = some (.val (.builtin "LookupError.__init__"))
def spChanged (K : PySem.W.Frag) (C : Addr) : Sp := fun vs H Q E => ∃ (ns : List Int) (c : Int × Int), DDs K H vs [nums ns, chg c] ∧ 0 ≤ c.1 ∧ ns.length ≤ 1000 ∧
  ((c.1 < ns.length → ∀ v H', Ex H H' → DD K H' v (nums (step ns c)) → Q v H') ∧ ((ns.length : Int) ≤ c.1 → ∀ dd H', Ex H H' → H' dd = some (.xd [("place", .int c.1)]) → E (.ref C) (some dd) H'))
abbrev s_changed : Stmt := top 11
abbrev N_changed : List Str := ["text", "change", "place", "letter", "after"]
theorem sc_changed : FnScope N_changed ["text", "change"] (defScope s_changed) := ⟨rfl, rfl, rfl, by decide +kernel, rfl, by decide +kernel, by decide +kernel⟩
theorem ok_changed {f C fI : Addr} {fd fdI : FuncData} (F : Fun K "changed" "changed" s_changed f fd) (T : Blt mg) (N : NP K mg C fI fdI) : FnOk P w K mg base (L2.CX P w) 3 f fd ["text", "change"] (spChanged K C) := by
  refine F.okX sc_changed (fun vs H Q E h => ?_) (fun cdv A outer s H vs Q E hr h => ?_)
  · obtain ⟨ns, c, h, _⟩ := h
    rw [h.length]
    rfl
  · obtain ⟨ns, c, h, c0, hn, q1, q2⟩ := h
    refine ⟨_, (pss_cons (ps_asg (pv 1) (pg_tup rfl (pgs_cons (pg_name (i := 2) sc_changed.nd rfl (Or.inl rfl)) (pgs_cons (pg_name (i := 3) sc_changed.nd rfl (Or.inl rfl)) pgs_nil))))
      (pss_cons (ps_if (pt_cmpR op_ge (pv 2) (pe_callB call_len_seq (by rfl) T.len PySem.boot_len (pa_cons (pv 0) pa_nil)) (nomark _)) (pss_one (ps_raise rfl (takes_of rfl rfl rfl rfl) (pmk_lx N.lx N.ini N.ty (ok_init N.fn N.le N.vV) hr N.bi .nil pass0 (by rfl) N.gl (pa_cons (pv 2) pa_nil)))) pss_nil)
      (pss_cons (ps_set (i := 4) sc_changed.nd rfl (Or.inl rfl) (pe_callTy call_list_of (by rfl) T.list (by decide +kernel) (pa_cons (pv 0) pa_nil)))
      (pss_cons (ps_asg (pv 3) (pg_sub (pv 4) (pv 2) set_list))
      (pss_one (ps_ret (pe_callTy call_tuple_of (by rfl) T.tuple (by decide +kernel) (pa_cons (pv 4) pa_nil)))))))), ?_⟩
    have e0 := en_start (N_changed.length - [nums ns, chg c].length) h
    have E0 : En K (hide H []) (L2.start N_changed vs) (startD N_changed [nums ns, chg c]) := by
      have z : L2.start N_changed vs = vs.map some ++ List.replicate (N_changed.length - vs.length) none := rfl
      rw [z, h.length]
      exact en0 e0
    refine sn_asg (K := K) (o := []) (ev_var (by rfl)) gt_two _ _ _ E0 own0 fun σ1 H1 e1 W1 E1 => ?_
    dsimp only
    refine ss_if (b := decide (((ns.map PyData.int).length : Int) ≤ c.1)) E1 W1 ?hb fun H2 e2 W2 => ?_
    case hb => exact (eb_test (ev_op (ev_var (by rfl)) (ev_cb (ea_cons (ev_var (by rfl)) ea_nil) cb_lenT) od_ge))
    have E2 := E1.mono (ex_hide e2)
    by_cases hc : ((ns.map PyData.int).length : Int) ≤ c.1
    · rw [decide_eq_true hc]
      refine iteT ?_
      obtain ⟨v, hv, dv⟩ := E2.get (i := 2) (d := .int c.1) (by rfl)
      cases dd_int dv
      refine ⟨_, hv, (by show 1 ≤ 1000; decide), fun a ha => ⟨a, C, .int c.1, rfl, upd_same, N.lx, N.no, fun dx h1 h2 => ⟨rfl, dx, _, upd_same, ?_, ?_, q2 (by rw [List.length_map] at hc; exact hc) dx _ (fun b x hb => ?_) upd_same⟩⟩⟩
      · rw [upd_ne h2, upd_same]
      · rw [upd_ne h2] at h1
        exact h1
      · have hb2 : H2 b = some x := e2 _ _ (e1 _ _ hb)
        have n1 : b ≠ a := ne_of_none hb2 ha
        have n2 : b ≠ dx := fun z => by
          rw [upd_ne h2, ← z, hb2] at h1
          cases h1
        rw [upd_ne n2, del_ne n1, upd_ne n1, upd_ne n2, upd_ne n1]
        exact hb2
    · rw [decide_eq_false hc]
      refine iteF ?_
      have hlt : c.1 < ns.length := by
        rw [List.length_map] at hc
        omega
      have key : MvR K [] (tSeq (tAsg (tCB (rLstOf K) (tCons (tVar 0) tNil)) (gName 4)) (tSeq (tAsg (tVar 3) (gSub (tVar 4) (tVar 2) rSetL)) (tRet (tCB (rTupOf K) (tCons (tVar 4) tNil))))) [] [some (nums ns), some (chg c), some (.int c.1), some (.int c.2), none] (nums (step ns c)) := by
        refine mr_seq (mn_new (fun O => ef_lstT (ev_var (by rfl))) (fun x h => by cases h) (by show 4 < 5; decide)) ?_
        refine mr_to (mr_seq (mn_item (k := 0) (j := c.1.toNat) rfl (em_pure fun O => ev_var (by rfl)) (em_pure fun O => ev_var (by rfl)) (ixN_in c0 (by rw [List.length_map]; exact hlt))) (mr_ret (ev_cb (ea_cons (ev_var (by rfl)) ea_nil) cb_tupL))) ?_
        unfold step nums
        rw [List.map_set]
      refine key H2 _ [] σ1 H2 ⟨by rw [hide_nil]; exact Same.refl _, own0, by rw [List.append_nil]; exact E2, .nil, List.nodup_nil⟩ fun v H' x W y => ?_
      rw [hide_nil] at x y
      exact q1 hlt v H' (e1.trans (e2.trans x)) y
/-- a def that may raise, where it does not -/
theorem fn_calm {k : Nat} {f : Addr} {fd : FuncData} {ps : List Str} {sp sp' : Sp} (F : FnOk P w K mg base (L2.CX P w) k f fd ps sp) (h : ∀ vs H Q E, sp' vs H Q E → sp vs H Q (fun _ _ _ => False)) : FnOk P w K mg base CX0 k f fd ps sp' := by
  refine ⟨fun vs H Q E q => F.len _ _ _ _ (h _ _ _ _ q), fun A outer s H args us vs Q E hr e0 hb hv q => ?_⟩
  refine codeAny_mono (F.run A outer s H args us vs Q _ hr e0 hb hv (h _ _ _ _ q)) fun r s' z => ?_
  cases r with
  | error e =>
    obtain ⟨_, _, _, _, _, _, _, _, _, _, _, _, z⟩ := z
    exact z.elim
  | ok fl => cases fl <;> exact z
abbrev R_changed : List PyData → PyData → Prop := fun as d => ∃ (ns : List Int) (c : Int × Int), as = [nums ns, chg c] ∧ 0 ≤ c.1 ∧ c.1 < ns.length ∧ ns.length ≤ 1000 ∧ d = nums (step ns c)
theorem ok_changed0 {f C fI : Addr} {fd fdI : FuncData} (F : Fun K "changed" "changed" s_changed f fd) (T : Blt mg) (N : NP K mg C fI fdI) : FnOk P w K mg base CX0 3 f fd ["text", "change"] (spD K 2 R_changed) :=
  fn_calm (ok_changed (P := P) (w := w) (base := base) F T N) fun vs H Q E ⟨as, d, h, hl, ⟨ns, c, e, c0, c1, c2, e2⟩, q⟩ => by
    subst e e2
    exact ⟨ns, c, h, c0, c2, fun _ v H' x y => q v H' x y, fun z => by omega⟩
end
end K2

namespace K2
open PySem PySem.Spec PyProof.Rows L2 Ph
section
variable {P : Program} {w : World} {K : PySem.W.Frag} {mg : Str → Option Value} {base : Heap}

theorem chg_at {cs : List (Int × Int)} {i : Nat} {e : PyData} (h : (cs.map chg)[i]? = some e) : ∃ c, cs[i]? = some c ∧ e = chg c := by
  rw [List.getElem?_map] at h
  cases z : cs[i]? with
  | none => rw [z] at h; cases h
  | some c =>
    rw [z] at h
    exact ⟨c, rfl, (Option.some.inj h).symm⟩
def rows (t : List Int) (cs : List (Int × Int)) (n : Nat) : List PyData := (List.range n).map fun j => nums (play t (cs.take j))
theorem rows_next (t : List Int) (cs : List (Int × Int)) (n : Nat) : rows t cs (n + 1) = rows t cs n ++ [nums (play t (cs.take n))] := by
  unfold rows
  rw [List.range_succ, List.map_append]
  rfl
theorem rows_len (t : List Int) (cs : List (Int × Int)) (n : Nat) : (rows t cs n).length = n := by
  unfold rows
  rw [List.length_map, List.length_range]
abbrev s_texts_along : Stmt := top 13
abbrev N_texts_along : List Str := ["history", "many", "changes", "texts", "change"]
theorem sc_texts_along : FnScope N_texts_along ["history"] (defScope s_texts_along) := ⟨rfl, rfl, rfl, by decide +kernel, rfl, by decide +kernel, by decide +kernel⟩
abbrev R_texts_along : List PyData → PyData → Prop := fun as d => ∃ m cs, as = [his m cs] ∧ Hist m cs ∧ d = .list (rows (zeros m) cs (cs.length + 1))
theorem ok_texts_along {f : Addr} {fd : FuncData} (F : Fun K "texts_along" "texts_along" s_texts_along f fd) (T : Blt mg) (C_changed : Cal P w K mg base "changed" 3 ["text", "change"] (spD K 2 R_changed)) : FnOk P w K mg base CX0 4 f fd ["history"] (spD K 1 R_texts_along) := by
  refine fn_mut F sc_texts_along rfl fun cdv A outer s H E hr => ?_
  have hu64 : (A.deeper (envOfC "texts_along" (defScope s_texts_along) s.heap.objs.size f cdv)).units + 64 < cLine := hr.units
  refine ⟨_, (pss_cons (ps_asg (pv 0) (pg_tup rfl (pgs_cons (pg_name (i := 1) sc_texts_along.nd rfl (Or.inl rfl)) (pgs_cons (pg_name (i := 2) sc_texts_along.nd rfl (Or.inl rfl)) pgs_nil))))
      (pss_cons (ps_set (i := 3) sc_texts_along.nd rfl (Or.inl rfl) (pe_lst (pa_cons (pe_op op_repA (pe_tup (pa_cons pe_int pa_nil)) (pv 1)) pa_nil)))
      (pss_cons (ps_for PassesOwn.never rfl (pi_tup (pv 2)) (pg_name (i := 4) sc_texts_along.nd rfl (Or.inl rfl)) (pss_one (ps_expr (pe_bm PySem.F.plainAttrs_list PySem.F.slot_list_append PySem.F.type_list_append mt_append (pv 3) (pa_cons (pe_cal C_changed (hr.mono (by decide)) (by rfl) (pa_cons (pe_ix ix_list (pv 3) (pe_un un_neg pe_int) (fun _ _ => rfl)) (pa_cons (pv 4) pa_nil))) pa_nil)))))
      (pss_one (ps_ret (pv 3)))))), fun as d hl hR => ?_⟩
  obtain ⟨m, cs, rfl, hh, rfl⟩ := hR
  obtain ⟨m1, m2, c1, c2⟩ := hh
  refine mr_seq (mn_asg (vs := [1, 2]) (em_pure fun O => ev_var (by rfl)) (gs_two (by simp) (by simp)) (fun x h => by cases h)) ?_
  refine mr_seq (mn_new (es := [nums (zeros m)]) (fun O => ef_lst (ea_cons (ev_to (ev_op (ev_tup (ea_cons ev_int ea_nil) (by show 1 ≤ sizeLine; decide)) (ev_var (by rfl)) (od_repA (by simp) m1 m2 (by show 1 ≤ 1000; decide))) ?_) ea_nil) (by show 1 ≤ sizeLine; decide)) (fun x h => by cases h) (by show 3 < 5; decide)) ?_
  · rw [flat_one]
    unfold zeros nums
    rw [List.map_replicate]
  refine mr_to (mr_seq (mn_for (es := cs.map chg) (fun i => [(3, .l (rows (zeros m) cs (i + 1)))]) (fun _ => [some (his m cs), some (.int m), some (.tuple (cs.map chg)), none, none]) (fun O => ei_tup (ev_var (by rfl))) fun i e he => ?_) (mr_ret (ev_var (by rfl)))) ?_
  · obtain ⟨c, z, rfl⟩ := chg_at he
    have hi : i < cs.length := (List.getElem?_eq_some_iff.mp z).1
    obtain ⟨d1, d2, d3⟩ := c2 c (List.mem_of_getElem? z)
    refine ⟨_, [4], gs_name (by simp), fun x h => by
      cases (List.mem_singleton.mp h)
      show (3 : Nat) ∉ [4]
      decide, ?_⟩
    rw [rows_next _ _ (i + 1), play_next _ _ z]
    have last : atI (rows (zeros m) cs (i + 1)) (-1) = some (nums (play (zeros m) (cs.take i))) := by
      rw [rows_next]
      exact atI_last _ _
    have zl := zeros_len m1
    refine mn_to (mn_forget 4 (mn_append (k := 0) (e := nums (step (play (zeros m) (cs.take i)) c)) rfl ?h ?l)) rfl rfl
    case h => exact em_full (ev_call (ea_cons (ev_op (ev_var (by rfl)) (ev_neg ev_int) (od_ixL last)) (ea_cons (ev_var (by rfl)) ea_nil)) rfl ⟨_, _, rfl, d1, by rw [play_len, zl]; exact d2, by rw [play_len]; omega, rfl⟩) fz_nums
    case l => rw [rows_len, sizeLine_eq]; omega
  · rw [List.length_map]

abbrev s_is_history : Stmt := top 8
abbrev N_is_history : List Str := ["thing", "many", "changes", "change"]
theorem sc_is_history : FnScope N_is_history ["thing"] (defScope s_is_history) := ⟨rfl, rfl, rfl, by decide +kernel, rfl, by decide +kernel, by decide +kernel⟩
abbrev R_is_history : List PyData → PyData → Prop := fun as d => ∃ m cs, as = [his m cs] ∧ Hist m cs ∧ d = .bool true
theorem ok_is_history {f : Addr} {fd : FuncData} (F : Fun K "is_history" "is_history" s_is_history f fd) (T : Blt mg) (C_is_tuple_of : Cal P w K mg base "is_tuple_of" 1 ["thing", "many"] (spD K 2 R_is_tuple_of)) (C_is_number : Cal P w K mg base "is_number" 1 ["thing"] (spD K 1 R_is_number)) (C__is_change : Cal P w K mg base "_is_change" 4 ["thing", "many"] (spD K 2 R__is_change)) : FnOk P w K mg base CX0 5 f fd ["thing"] (spD K 1 R_is_history) := by
  refine fn_pure F sc_is_history rfl fun cdv A outer s H E hr => ?_
  have hu64 : (A.deeper (envOfC "is_history" (defScope s_is_history) s.heap.objs.size f cdv)).units + 64 < cLine := hr.units
  refine ⟨_, (pss_cons (ps_if (pt_not (pt_val (pe_cal C_is_tuple_of (hr.mono (by decide)) (by rfl) (pa_cons (pv 0) (pa_cons pe_int pa_nil))))) (pss_one (ps_ret pe_bl)) pss_nil)
      (pss_cons (ps_asg (pv 0) (pg_tup rfl (pgs_cons (pg_name (i := 1) sc_is_history.nd rfl (Or.inr rfl)) (pgs_cons (pg_name (i := 2) sc_is_history.nd rfl (Or.inl rfl)) pgs_nil))))
      (pss_cons (ps_if (PW.pt (pw_or (pt_not (pt_val (pe_cal C_is_number (hr.mono (by decide)) (by rfl) (pa_cons (pv 1) pa_nil)))) (pw_or (pt_cmpR op_lt (pv 1) pe_int (nomark _)) (pw_or1 (pt_not (pt_val (pe_callB call_isi (by rfl) T.isinstance PyProof.Rows.boot_isinstance (pa_cons (pv 2) (pa_cons (pe_bltn (v := .ty "tuple") (by rfl) T.tuple (by decide +kernel) rfl) pa_nil))))))))) (pss_one (ps_ret pe_bl)) pss_nil)
      (pss_one (ps_ret (pe_callB (cr_all rfl) (by rfl) T.all (by decide +kernel) (pa_cons (pe_lc (own := [("change", 3)]) (g := (gName 3)) (tt := tYes) (te := (tCall (spHide _) [] E0 (tCons (tVar 3) (tCons (tVar 1) tNil)))) rfl sc_is_history.nd (pi_tup (pv 2)) (blkOk_by (N := N_is_history) (sc := defScope s_is_history) (by decide +kernel)) (fun _ _ _ _ _ => by exact (pg_name (i := 3) sc_is_history.nd rfl (Or.inl rfl))) (fun _ _ _ _ _ => by exact pts_nil) (fun _ _ _ _ _ => by exact (pe_cal C__is_change (hr.mono (by decide)) (by rfl) (pa_cons (pv 3) (pa_cons (pv 1) pa_nil))))) pa_nil))))))), fun as d hl hR => ?_⟩
  obtain ⟨m, cs, rfl, hh, rfl⟩ := hR
  obtain ⟨m1, m2, c1, c2⟩ := hh
  refine sr_ifRet (b := false) ?h1 (fun h => nomatch h) fun _ => ?_
  case h1 => exact eb_not (b := true) (eb_B (ev_call (ea_cons (ev_var (by rfl)) (ea_cons ev_int ea_nil)) rfl ⟨_, _, rfl, rfl⟩))
  refine sr_seq (sn_asg (e := his m cs) (ev_var (by rfl)) gt_two) ?_
  refine sr_ifRet (b := (!true) || (decide (m < 1) || (!true))) ?h2 (fun h => ?_) fun _ => ?_
  case h2 => exact eb_or (eb_not (eb_B (ev_call (ea_cons (ev_var (by rfl)) ea_nil) rfl ⟨m, rfl, rfl⟩))) fun _ => (eb_or (eb_test (ev_op (ev_var (by rfl)) ev_int od_lt)) fun _ => (eb_not (b := true) (eb_B (ev_is_tuple (d := .tuple (cs.map chg)) (ev_var (by rfl))))))
  · rw [decide_eq_false (by omega)] at h
    cases h
  · refine sr_to (sr_ret (ev_allc chg (fun _ => true) _ (ei_tup (ev_var (by rfl))) (by omega) (gw_name (by simp)) (fun e _ => gt_name) (fun e he o => ev_to (ev_call (ea_cons (ev_var (by rfl)) (ea_cons (ev_var (by rfl)) ea_nil)) rfl ⟨e, m, rfl, rfl⟩) ?_))) ?_
    · obtain ⟨d1, d2, d3⟩ := c2 e he
      rw [decide_eq_true d1, decide_eq_true d2, decide_eq_true d3]
      rfl
    · rw [List.all_eq_true.mpr (fun _ _ => rfl)]

abbrev s_beside : Stmt := top 15
abbrev N_beside : List Str := ["one", "other", "first", "place", "letter", "second"]
theorem sc_beside : FnScope N_beside ["one", "other"] (defScope s_beside) := ⟨rfl, rfl, rfl, by decide +kernel, rfl, by decide +kernel, by decide +kernel⟩
abbrev R_beside : List PyData → PyData → Prop := fun as d => ∃ m cs n bs, as = [his m cs, his n bs] ∧ cs.length ≤ 1000 ∧ bs.length ≤ 1000 ∧ d = his (m + n) (cs ++ bs.map fun p => (m + p.1, p.2))
theorem ok_beside {f : Addr} {fd : FuncData} (F : Fun K "beside" "beside" s_beside f fd) (T : Blt mg)  : FnOk P w K mg base CX0 1 f fd ["one", "other"] (spD K 2 R_beside) := by
  refine fn_pure F sc_beside rfl fun cdv A outer s H E hr => ?_
  have hu64 : (A.deeper (envOfC "beside" (defScope s_beside) s.heap.objs.size f cdv)).units + 64 < cLine := hr.units
  refine ⟨_, (pss_cons (ps_setLc (i := 2) (own := [("place", 3), ("letter", 4)]) (g := (gTup K 2 (gCons (gName 3) (gCons (gName 4) gNil)))) (tt := tYes) (te := (tTup (tCons (tVar 3) (tCons (tVar 4) tNil)))) rfl sc_beside.nd rfl rfl (sw_true rfl rfl rfl (by decide +kernel)) (pi_tup (pe_ix ix_tup (pv 0) pe_int (fun _ _ => rfl))) (blkOk_by (N := N_beside) (sc := defScope s_beside) (by decide +kernel)) (fun _ _ _ _ _ => by exact (pg_tup rfl (pgs_cons (pg_name (i := 3) sc_beside.nd rfl (Or.inl rfl)) (pgs_cons (pg_name (i := 4) sc_beside.nd rfl (Or.inl rfl)) pgs_nil)))) (fun _ _ _ _ _ => by exact pts_nil) (fun _ _ _ _ _ => by exact (pe_tup (pa_cons (pv 3) (pa_cons (pv 4) pa_nil)))))
      (pss_cons (ps_setLc (i := 5) (own := [("place", 3), ("letter", 4)]) (g := (gTup K 2 (gCons (gName 3) (gCons (gName 4) gNil)))) (tt := tYes) (te := (tTup (tCons (tOp _ (tOp (rIxT K) (tVar 0) (tC (.int 0))) (tVar 3)) (tCons (tVar 4) tNil)))) rfl sc_beside.nd rfl rfl (sw_true rfl rfl rfl (by decide +kernel)) (pi_tup (pe_ix ix_tup (pv 1) pe_int (fun _ _ => rfl))) (blkOk_by (N := N_beside) (sc := defScope s_beside) (by decide +kernel)) (fun _ _ _ _ _ => by exact (pg_tup rfl (pgs_cons (pg_name (i := 3) sc_beside.nd rfl (Or.inl rfl)) (pgs_cons (pg_name (i := 4) sc_beside.nd rfl (Or.inl rfl)) pgs_nil)))) (fun _ _ _ _ _ => by exact pts_nil) (fun _ _ _ _ _ => by exact (pe_tup (pa_cons (pe_op op_add (pe_ix ix_tup (pv 0) pe_int (fun _ _ => rfl)) (pv 3)) (pa_cons (pv 4) pa_nil)))))
      (pss_one (ps_ret (pe_tup (pa_cons (pe_op op_add (pe_ix ix_tup (pv 0) pe_int (fun _ _ => rfl)) (pe_ix ix_tup (pv 1) pe_int (fun _ _ => rfl))) (pa_cons (pe_callTy call_tuple_of (by rfl) T.tuple (by decide +kernel) (pa_cons (pe_op op_cat (pv 2) (pv 5)) pa_nil)) pa_nil))))))), fun as d hl hR => ?_⟩
  obtain ⟨m, cs, n, bs, rfl, h1, h2, rfl⟩ := hR
  refine sr_to (sr_seq (sn_set (ev_lcm chg chg _ (ei_tup (ev_op (ev_var (by rfl)) ev_int (od_ixT (d := .tuple (cs.map chg)) rfl))) (by omega) (gw_two (by simp) (by simp)) (fun e _ => gt_two) (fun e _ o => ev_tup (ea_cons (ev_var (by rfl)) (ea_cons (ev_var (by rfl)) ea_nil)) (by show 2 ≤ sizeLine; decide))))
      (sr_seq (sn_set (ev_lcm chg (fun p => chg (m + p.1, p.2)) _ (ei_tup (ev_op (ev_var (by rfl)) ev_int (od_ixT (d := .tuple (bs.map chg)) rfl))) (by omega) (gw_two (by simp) (by simp)) (fun e _ => gt_two) (fun e _ o => ev_tup (ea_cons (ev_op (ev_op (ev_var (by rfl)) ev_int (od_ixT (d := .int m) rfl)) (ev_var (by rfl)) od_add) (ea_cons (ev_var (by rfl)) ea_nil)) (by show 2 ≤ sizeLine; decide))))
      (sr_ret (ev_tup (ea_cons (ev_op (ev_op (ev_var (by rfl)) ev_int (od_ixT (d := .int m) rfl)) (ev_op (ev_var (by rfl)) ev_int (od_ixT (d := .int n) rfl)) od_add) (ea_cons (ev_cb (ea_cons (ev_op (ev_var (by rfl)) (ev_var (by rfl)) (od_cat ?_)) ea_nil) cb_tupL) ea_nil)) (by show 2 ≤ sizeLine; decide))))) ?_
  · rw [List.length_map, List.length_map, sizeLine_eq]
    omega
  · show PyData.tuple [.int (m + n), .tuple (cs.map chg ++ bs.map fun p => chg (m + p.1, p.2))] = _
    rw [his, List.map_append, List.map_map]
    rfl

end
end K2

namespace Ph
open PySem PySem.Spec PyProof.Rows L2
theorem eqvAll_ints : ∀ (as bs : List Int), PyData.eqvAll (as.map PyData.int) (bs.map PyData.int) = decide (as = bs)
  | [], [] => by simp [PyData.eqvAll]
  | [], b :: bs => by simp [PyData.eqvAll]
  | a :: as, [] => by simp [PyData.eqvAll]
  | a :: as, b :: bs => by
    rw [List.map_cons, List.map_cons]
    show (PyData.eqv (.int a) (.int b) && PyData.eqvAll (as.map PyData.int) (bs.map PyData.int)) = _
    rw [eqvAll_ints as bs]
    have e : PyData.eqv (.int a) (.int b) = decide (a = b) := by
      simp only [PyData.eqv]
      by_cases c : a = b
      · rw [decide_eq_true c]
        exact beq_iff_eq.mpr c
      · rw [decide_eq_false c]
        exact beq_eq_false_iff_ne.mpr c
    rw [e]
    by_cases c : a = b <;> by_cases c2 : as = bs <;> simp [c, c2]
theorem ints_eqv (as bs : List Int) : PyData.eqv (.list (as.map PyData.int)) (.list (bs.map PyData.int)) = decide (as = bs) := by
  rw [← eqvAll_ints]
  simp only [PyData.eqv]
theorem ints_lay : ∀ as : List Int, PyData.canLayAll0 (as.map PyData.int) = true
  | [] => by simp [PyData.canLayAll0]
  | a :: as => by
    rw [List.map_cons]
    simp only [PyData.canLayAll0, PyData.canLay0, ints_lay as, Bool.and_self]
theorem ints_depth : ∀ as : List Int, PyData.depthAll (as.map PyData.int) = 0
  | [] => by simp [PyData.depthAll]
  | a :: as => by
    rw [List.map_cons]
    simp only [PyData.depthAll, PyData.depth, ints_depth as, Nat.max_self]
theorem ints_shaped (as : List Int) : SeqAt.shaped (.list (as.map PyData.int)) = true := by
  unfold SeqAt.shaped
  rw [show PyData.canLay0 (.list (as.map PyData.int)) = true by simp only [PyData.canLay0]; exact ints_lay as, show PyData.depth (.list (as.map PyData.int)) = 1 by simp only [PyData.depth, ints_depth]]
  rfl
end Ph

namespace K2
open PySem PySem.Spec PyProof.Rows L2 Ph
section
variable {P : Program} {w : World} {K : PySem.W.Frag} {mg : Str → Option Value} {base : Heap}

/-- one change beside the pile of places: none where it is not taken back in order -/
def pile1 (ps : List Int) (c : Int × Int) : Option (List Int) :=
  if 0 < c.2 ∧ c.1 ∉ ps then some (ps ++ [c.1]) else if c.2 = 0 ∧ ps.drop (ps.length - 1) = [c.1] then some ps.dropLast else none
def pileN (cs : List (Int × Int)) (i : Nat) : Option (List Int) := (cs.take i).foldlM pile1 []
theorem pileN_next {cs : List (Int × Int)} {i : Nat} {c : Int × Int} (h : cs[i]? = some c) : pileN cs (i + 1) = (pileN cs i).bind fun ps => pile1 ps c := by
  unfold pileN
  rw [List.take_add_one, h, List.foldlM_append]
  show (List.foldlM pile1 [] (List.take i cs) >>= fun s => List.foldlM pile1 s [c]) = _
  cases List.foldlM pile1 [] (List.take i cs) with
  | none => rfl
  | some ps =>
    show (pile1 ps c >>= fun s => List.foldlM pile1 s []) = pile1 ps c
    cases pile1 ps c <;> rfl
theorem pileN_len (cs : List (Int × Int)) : ∀ (i : Nat) {ps : List Int}, i ≤ cs.length → pileN cs i = some ps → ps.length ≤ i
  | 0, ps, _, h => by
    cases Option.some.inj h
    exact Nat.le_refl _
  | i + 1, ps, hi, h => by
    have z : cs[i]? = some cs[i] := List.getElem?_eq_getElem hi
    rw [pileN_next z] at h
    cases w : pileN cs i with
    | none => rw [w] at h; cases h
    | some qs =>
      have l := pileN_len cs i (by omega) w
      rw [w] at h
      have h : pile1 qs cs[i] = some ps := h
      unfold pile1 at h
      split at h
      · cases Option.some.inj h
        rw [List.length_append]
        show qs.length + 1 ≤ i + 1
        omega
      · split at h
        · cases Option.some.inj h
          rw [List.length_dropLast]
          omega
        · cases h
theorem ef_lastI {o : List Addr} {ds : List (Option PyData)} {ta : TE} {ps : List Int} (h : EvD K o ta ds (.list (ps.map PyData.int))) : EvF K o (tSl (rSlL K) ta (tPart (tUn (rU fun i => .int (-i)) (tC (.int 1)))) tNoPart) ds ((ps.drop (ps.length - 1)).map PyData.int) := by
  have z := ef_slLo h (ev_neg (ev_int (i := 1)))
  rw [cut_last, List.length_map] at z
  rw [List.map_drop]
  exact z
theorem pileN_none {cs : List (Int × Int)} : ∀ (i j : Nat), i ≤ j → pileN cs i = none → pileN cs j = none := fun i j l h => by
  have key : ∀ (l : List (Int × Int)) (x : Option (List Int)), x = none → (x >>= fun s => l.foldlM pile1 s) = none := fun l x e => by rw [e]; rfl
  unfold pileN at h ⊢
  have e : cs.take j = cs.take i ++ (cs.drop i).take (j - i) := by
    conv => lhs; rw [show j = i + (j - i) by omega, List.take_add]
  rw [e, List.foldlM_append]
  exact key _ _ h
abbrev s_takes_back : Stmt := top 17
abbrev N_takes_back : List Str := ["history", "puts", "place", "letter"]
theorem sc_takes_back : FnScope N_takes_back ["history"] (defScope s_takes_back) := ⟨rfl, rfl, rfl, by decide +kernel, rfl, by decide +kernel, by decide +kernel⟩
abbrev R_takes_back : List PyData → PyData → Prop := fun as d => ∃ m cs, as = [his m cs] ∧ cs.length ≤ 1000 ∧ (∀ p ∈ cs, 0 ≤ p.2) ∧ d = .bool (pileN cs cs.length).isSome
theorem ok_takes_back {f : Addr} {fd : FuncData} (F : Fun K "takes_back" "takes_back" s_takes_back f fd) (T : Blt mg)  : FnOk P w K mg base CX0 1 f fd ["history"] (spD K 1 R_takes_back) := by
  refine fn_mut F sc_takes_back rfl fun cdv A outer s H E hr => ?_
  have hu64 : (A.deeper (envOfC "takes_back" (defScope s_takes_back) s.heap.objs.size f cdv)).units + 64 < cLine := hr.units
  refine ⟨_, (pss_cons (ps_set (i := 1) sc_takes_back.nd rfl (Or.inl rfl) (pe_lst pa_nil))
      (pss_cons (ps_for PassesOwn.never rfl (pi_tup (pe_ix ix_tup (pv 0) pe_int (fun _ _ => rfl))) (pg_tup rfl (pgs_cons (pg_name (i := 2) sc_takes_back.nd rfl (Or.inl rfl)) (pgs_cons (pg_name (i := 3) sc_takes_back.nd rfl (Or.inl rfl)) pgs_nil))) (pss_one (ps_if (PW.pt (pw_and (pt_cmpR op_gt (pv 3) pe_int (nomark _)) (pw_and1 (pt_cmpR op_notIn_seq (pv 2) (pv 1) rfl)))) (pss_one (ps_expr (pe_bm PySem.F.plainAttrs_list PySem.F.slot_list_append PySem.F.type_list_append mt_append (pv 1) (pa_cons (pv 2) pa_nil)))) (pss_one (ps_if (PW.pt (pw_and (pt_cmpR op_eq (pv 3) pe_int (nomark _)) (pw_and1 (pt_cmpR (op_eqD hu64) (pe_slice sl_list (pv 1) (po_some (pe_un un_neg pe_int)) po_none) (pe_lst (pa_cons (pv 2) pa_nil)) (nomark _))))) (pss_one (ps_expr (pe_bm0 PySem.F.plainAttrs_list PySem.F.slot_list_pop PySem.F.type_list_pop mt_pop (pv 1)))) (pss_one (ps_ret pe_bl)))))))
      (pss_one (ps_ret pe_bl)))), fun as d hl hR => ?_⟩
  obtain ⟨m, cs, rfl, c1, c2, rfl⟩ := hR
  refine mr_seq (mn_new (es := []) (fun O => ef_lst ea_nil (by show 0 ≤ sizeLine; decide)) (fun x h => by cases h) (by show 1 < 4; decide)) ?_
  refine mr_for (es := cs.map chg) (fun i => [(1, .l (((pileN cs i).getD []).map PyData.int))]) (fun _ => [some (his m cs), none, none, none]) (fun i => (pileN cs (i + 1)).isNone) (fun O => ei_tup (ev_op (ev_var (by rfl)) ev_int (od_ixT (d := .tuple (cs.map chg)) rfl))) (fun i e he ok => ?_) fun ok => ?_
  · obtain ⟨c, z, rfl⟩ := chg_at he
    have hi : i < cs.length := (List.getElem?_eq_some_iff.mp z).1
    have d3 := c2 c (List.mem_of_getElem? z)
    obtain ⟨ps, hp⟩ : ∃ ps, pileN cs i = some ps := by
      cases i with
      | zero => exact ⟨[], rfl⟩
      | succ i =>
        have q := ok i (Nat.lt_succ_self i)
        cases w : pileN cs (i + 1) with
        | none => rw [w] at q; cases q
        | some ps => exact ⟨ps, rfl⟩
    have hl := pileN_len cs i (by omega) hp
    have nx := pileN_next z
    rw [hp] at nx
    have nx : pileN cs (i + 1) = pile1 ps c := nx
    refine ⟨_, [2, 3], gs_two (by simp) (by simp), fun x h => by
      cases (List.mem_singleton.mp h)
      show (1 : Nat) ∉ [2, 3]
      decide, fun hs => ?_, fun hs => ?_⟩
    · rw [hp]
      have hn : pile1 ps c = none := by rw [← nx]; exact Option.isNone_iff_eq_none.mp hs
      have hN : pileN cs cs.length = none := pileN_none (i + 1) _ hi (nx.trans hn)
      rw [hN]
      unfold pile1 at hn
      by_cases h1 : 0 < c.2 ∧ c.1 ∉ ps
      · rw [if_pos h1] at hn
        cases hn
      · rw [if_neg h1] at hn
        by_cases h2 : c.2 = 0 ∧ ps.drop (ps.length - 1) = [c.1]
        · rw [if_pos h2] at hn
          cases hn
        · refine mr_if (b := decide (0 < c.2) && !decide (c.1 ∈ ps)) ?h1 (fun q => absurd ?g1 h1) fun _ => mr_if (b := decide (c.2 = 0) && PyData.eqv (.list ((ps.drop (ps.length - 1)).map PyData.int)) (.list ([c.1].map PyData.int))) ?h2 (fun q => absurd ?g2 h2) fun _ => mr_ret ev_bl
          case h1 => exact bm_full (eb_and (eb_test (ev_op (ev_var (by rfl)) ev_int od_gt)) fun _ => (eb_test (ev_op (ev_var (by rfl)) (ev_var (by rfl)) od_notIn)))
          case g1 => simpa using q
          case h2 => exact bm_full (eb_and (eb_test (ev_op (ev_var (by rfl)) ev_int od_eqI)) fun _ => (eb_test (ev_op (ev_new (ef_lastI (ps := ps) (ev_var (by rfl)))) (ev_lst (ea_cons (ev_var (by rfl)) ea_nil) (by show 1 ≤ sizeLine; decide)) (od_eqD' (ints_shaped _) (ints_shaped [c.1])))))
          case g2 =>
            rw [ints_eqv] at q
            simpa using q
    · obtain ⟨qs, hq⟩ : ∃ qs, pile1 ps c = some qs := by
        rw [nx] at hs
        cases w : pile1 ps c with
        | none => rw [w] at hs; cases hs
        | some qs => exact ⟨qs, rfl⟩
      rw [hp, nx, hq]
      by_cases h1 : 0 < c.2 ∧ c.1 ∉ ps
      · have e : qs = ps ++ [c.1] := by
          unfold pile1 at hq
          rw [if_pos h1] at hq
          exact (Option.some.inj hq).symm
        subst e
        refine mn_to (mn_forget 2 (mn_forget 3 (mn_if (b := true) ?h1 (fun _ => mn_append (k := 0) (e := .int c.1) rfl ?h ?l) (fun q => nomatch q)))) ?e1 rfl
        case h1 =>
          have z : (decide (0 < c.2) && !decide (c.1 ∈ ps)) = true := by simpa using h1
          exact bm_to (bm_full (eb_and (eb_test (ev_op (ev_var (by rfl)) ev_int od_gt)) fun _ => (eb_test (ev_op (ev_var (by rfl)) (ev_var (by rfl)) od_notIn)))) z
        case h => exact em_pure fun O => ev_var (by rfl)
        case l =>
          show (ps.map PyData.int).length < sizeLine
          rw [List.length_map, sizeLine_eq]
          omega
        case e1 =>
          show [(1, MC.l (ps.map PyData.int ++ [.int c.1]))] = [(1, .l ((ps ++ [c.1]).map PyData.int))]
          rw [List.map_append]
          rfl
      · have h2 : c.2 = 0 ∧ ps.drop (ps.length - 1) = [c.1] := by
          unfold pile1 at hq
          rw [if_neg h1] at hq
          by_cases h2 : c.2 = 0 ∧ ps.drop (ps.length - 1) = [c.1]
          · exact h2
          · rw [if_neg h2] at hq
            cases hq
        have e : qs = ps.dropLast := by
          unfold pile1 at hq
          rw [if_neg h1, if_pos h2] at hq
          exact (Option.some.inj hq).symm
        subst e
        refine mn_to (mn_forget 2 (mn_forget 3 (mn_if (b := false) ?h1 (fun q => nomatch q) (fun _ => mn_if (b := true) ?h2 (fun _ => mn_pop (k := 0) (i := 1) rfl ?l) (fun q => nomatch q))))) ?e1 rfl
        case h1 =>
          have z : (decide (0 < c.2) && !decide (c.1 ∈ ps)) = false := by
            rw [Bool.eq_false_iff]
            intro q
            exact h1 (by simpa using q)
          exact bm_to (bm_full (eb_and (eb_test (ev_op (ev_var (by rfl)) ev_int od_gt)) fun _ => (eb_test (ev_op (ev_var (by rfl)) (ev_var (by rfl)) od_notIn)))) z
        case h2 =>
          have z : (decide (c.2 = 0) && PyData.eqv (.list ((ps.drop (ps.length - 1)).map PyData.int)) (.list ([c.1].map PyData.int))) = true := by
            rw [ints_eqv]
            simpa using h2
          exact bm_to (bm_full (eb_and (eb_test (ev_op (ev_var (by rfl)) ev_int od_eqI)) fun _ => (eb_test (ev_op (ev_new (ef_lastI (ps := ps) (ev_var (by rfl)))) (ev_lst (ea_cons (ev_var (by rfl)) ea_nil) (by show 1 ≤ sizeLine; decide)) (od_eqD' (ints_shaped _) (ints_shaped [c.1])))))) z
        case l =>
          show 0 < (ps.map PyData.int).length
          rw [List.length_map]
          have q := congrArg List.length h2.2
          rw [List.length_drop] at q
          simp at q
          omega
        case e1 =>
          show [(1, MC.l (ps.map PyData.int).dropLast)] = [(1, .l (ps.dropLast.map PyData.int))]
          rw [List.map_dropLast]
  · have e : (pileN cs cs.length).isSome = true := by
      cases h : cs.length with
      | zero => rfl
      | succ n =>
        have q := ok n (by rw [List.length_map]; omega)
        cases w : pileN cs (n + 1) with
        | none => rw [w] at q; cases q
        | some ps => rfl
    rw [e]
    exact mr_ret ev_bl

end
end K2

namespace Ph
open PySem PySem.Spec PyProof.Rows L2
/-! ### dicts of numbers, as data -/
def isK (k : Int) : PyData → Bool
  | .int i => decide (i = k)
  | _ => false
def dGet (ms : List (PyData × PyData)) (k : Int) : Option PyData := (ms.find? fun p => isK k p.1).map (·.2)
def dPut (ms : List (PyData × PyData)) (k : Int) (d : PyData) : List (PyData × PyData) :=
  if (dGet ms k).isSome = true then ms.map (fun p => if isK k p.1 = true then (p.1, d) else p) else ms ++ [(.int k, d)]
section
variable {K : PySem.W.Frag} {G : Hp}
theorem dks_get {kvs : List (Key × V)} {ms : List (PyData × PyData)} (k : Int) (h : DKs K G kvs ms) : (valV kvs (.inl k) = none ∧ dGet ms k = none) ∨ ∃ v d, valV kvs (.inl k) = some v ∧ dGet ms k = some d ∧ DD K G v d := by
  induction ms generalizing kvs with
  | nil =>
    cases h
    exact .inl ⟨rfl, rfl⟩
  | cons m ms ih =>
    cases h with
    | @cons i v kvs d _ hd t =>
      by_cases c : i = k
      · subst c
        refine .inr ⟨v, d, valV_pos (p := (Sum.inl i, v)) rfl, ?_, hd⟩
        unfold dGet
        rw [List.find?_cons_of_pos (by simp [isK])]
        rfl
      · rw [valV_neg (p := (Sum.inl i, v)) (fun z => c (Sum.inl.inj z))]
        have e : dGet ((.int i, d) :: ms) k = dGet ms k := by
          unfold dGet
          rw [List.find?_cons_of_neg (by simp [isK, c])]
        rw [e]
        exact ih t
theorem dks_len {kvs : List (Key × V)} {ms : List (PyData × PyData)} (h : DKs K G kvs ms) : kvs.length = ms.length := by
  induction ms generalizing kvs with
  | nil => cases h; rfl
  | cons m ms ih =>
    cases h with
    | cons hd t => rw [List.length_cons, List.length_cons, ih t]
theorem dks_put {kvs : List (Key × V)} {ms : List (PyData × PyData)} {v : V} {d : PyData} (k : Int) (h : DKs K G kvs ms) (x : DD K G v d) : DKs K G (putK kvs (.inl k) v) (dPut ms k d) := by
  unfold putK dPut
  rw [valV_any]
  have key : (valV kvs (.inl k)).isSome = (dGet ms k).isSome := by
    rcases dks_get k h with ⟨a, b⟩ | ⟨_, _, a, b, _⟩
    · rw [a, b]; rfl
    · rw [a, b]; rfl
  rw [key]
  by_cases c : (dGet ms k).isSome = true
  · rw [if_pos c, if_pos c]
    clear c key
    induction ms generalizing kvs with
    | nil => cases h; exact .nil
    | cons m ms ih =>
      cases h with
      | @cons i u kvs d0 _ hd t =>
        rw [List.map_cons, List.map_cons]
        by_cases c : i = k
        · subst c
          rw [if_pos rfl, if_pos (by simp [isK])]
          exact .cons x (ih t)
        · rw [if_neg (fun z => c (Sum.inl.inj z)), if_neg (by simp [isK, c])]
          exact .cons hd (ih t)
  · rw [if_neg c, if_neg c]
    clear c key
    induction ms generalizing kvs with
    | nil => cases h; exact .cons x .nil
    | cons m ms ih =>
      cases h with
      | cons hd t => exact .cons hd (ih t)
end
theorem dPut_len (ms : List (PyData × PyData)) (k : Int) (d : PyData) : (dPut ms k d).length ≤ ms.length + 1 := by
  unfold dPut
  split
  · rw [List.length_map]
    omega
  · rw [List.length_append]
    exact Nat.le_refl _
theorem dGet_put (ms : List (PyData × PyData)) (k j : Int) (d : PyData) : dGet (dPut ms k d) j = if j = k then some d else dGet ms j := by
  unfold dPut
  by_cases c : (dGet ms k).isSome = true
  · rw [if_pos c]
    induction ms with
    | nil => cases c
    | cons m ms ih =>
      obtain ⟨a, b⟩ := m
      rw [List.map_cons]
      have pos : ∀ {ms : List (PyData × PyData)} {a b : PyData} {j : Int}, isK j a = true → dGet ((a, b) :: ms) j = some b := fun {ms a b j} h => by
        unfold dGet
        rw [List.find?_cons_of_pos (by exact h)]
        rfl
      have neg : ∀ {ms : List (PyData × PyData)} {a b : PyData} {j : Int}, isK j a = false → dGet ((a, b) :: ms) j = dGet ms j := fun {ms a b j} h => by
        unfold dGet
        rw [List.find?_cons_of_neg (by show ¬ isK _ _ = true; rw [h]; exact Bool.false_ne_true)]
      have both : ∀ {a : PyData} {i j : Int}, isK i a = true → isK j a = true → i = j := fun {a i j} h1 h2 => by
        cases a <;> simp [isK] at h1 h2
        omega
      by_cases ck : isK k a = true
      · rw [if_pos ck]
        by_cases cj : isK j a = true
        · rw [pos cj, if_pos (both cj ck)]
        · have ne : j ≠ k := fun z => cj (by rw [z]; exact ck)
          rw [neg (Bool.eq_false_iff.mpr cj), neg (Bool.eq_false_iff.mpr cj), if_neg ne]
          by_cases c2 : (dGet ms k).isSome = true
          · have z := ih c2
            rw [if_neg ne] at z
            exact z
          · have z : ms.map (fun p => if isK k p.1 = true then (p.1, d) else p) = ms := by
              have nk : ∀ p ∈ ms, isK k p.1 = false := by
                intro p hp
                cases w : isK k p.1 with
                | false => rfl
                | true =>
                  refine absurd ?_ c2
                  unfold dGet
                  rw [Option.isSome_map]
                  exact List.find?_isSome.mpr ⟨p, hp, w⟩
              conv => rhs; rw [← List.map_id ms]
              refine List.map_congr_left fun p hp => ?_
              rw [if_neg (by rw [nk p hp]; exact Bool.false_ne_true)]
              rfl
            rw [z]
      · rw [if_neg ck]
        rw [neg (Bool.eq_false_iff.mpr ck)] at c
        by_cases cj : isK j a = true
        · have ne : j ≠ k := fun z => ck (by rw [← z]; exact cj)
          rw [pos cj, pos cj, if_neg ne]
        · rw [neg (Bool.eq_false_iff.mpr cj), neg (Bool.eq_false_iff.mpr cj)]
          exact ih c
  · rw [if_neg c]
    unfold dGet at c ⊢
    rw [List.find?_append]
    by_cases e : j = k
    · subst e
      rw [if_pos rfl]
      have n : ms.find? (fun p => isK j p.1) = none := by
        cases w : ms.find? (fun p => isK j p.1) with
        | none => rfl
        | some p => rw [w] at c; exact absurd rfl c
      rw [n]
      simp [isK]
    · rw [if_neg e]
      have n : [(PyData.int k, d)].find? (fun p => isK j p.1) = none := by
        simp [isK, Ne.symm e]
      rw [n, Option.or_none]
section
variable {K : PySem.W.Frag} {o : List Addr} {ds : List (Option PyData)} {ta tb td te ti tx : TE} {d e : PyData}
theorem ev_dIn {k : Int} {ms : List (PyData × PyData)} (h1 : EvD K o ti ds (.int k)) (h2 : EvD K o td ds (.dict ms)) : EvD K o (tDIn ti td) ds (.bool (dGet ms k).isSome) := fun σ H E W Q q =>
  h1 σ H E W _ fun v H1 e1 W1 x => h2 σ H1 (E.mono (ex_hide e1)) W1 _ fun u H2 e2 W2 y => by
    obtain ⟨a, kvs, rfl, ha, t⟩ := dd_dct y
    have ha := (hide_some ha).2
    cases dd_int x
    rcases dks_get k t with ⟨z1, z2⟩ | ⟨v, d, z1, z2, _⟩
    · rw [z2] at q
      exact ⟨a, none, rfl, .inl ⟨kvs, .inl k, .inl ha, rfl, z1.symm⟩, q _ H2 (e1.trans e2) W2 (.bl _)⟩
    · rw [z2] at q
      exact ⟨a, some v, rfl, .inl ⟨kvs, .inl k, .inl ha, rfl, z1.symm⟩, q _ H2 (e1.trans e2) W2 (.bl _)⟩
theorem ev_dGet2 {k : Int} {ms : List (PyData × PyData)} (h2 : EvD K o td ds (.dict ms)) (h1 : EvD K o ti ds (.int k)) (h3 : EvD K o tx ds e) : EvD K o (tDGet2 td ti tx) ds ((dGet ms k).getD e) := fun σ H E W Q q =>
  h2 σ H E W _ fun v H1 e1 W1 y => by
    obtain ⟨a, kvs, rfl, ha, t⟩ := dd_dct y
    have hb := (hide_some ha).2
    refine ⟨a, rfl, .inl ⟨kvs, .inl hb⟩, ?_⟩
    refine h1 σ H1 (E.mono (ex_hide e1)) W1 _ fun u H2 e2 W2 x => h3 σ H2 (E.mono (ex_hide (e1.trans e2))) W2 _ fun w H3 e3 W3 z => ?_
    cases dd_int x
    have e23 := e2.trans e3
    rcases dks_get k t with ⟨z1, z2⟩ | ⟨v, d, z1, z2, hd⟩
    · rw [z2] at q
      exact ⟨none, .inl ⟨kvs, .inl k, .inl (e23 _ _ hb), rfl, z1.symm⟩, q _ H3 (e1.trans e23) W3 z⟩
    · rw [z2] at q
      exact ⟨some v, .inl ⟨kvs, .inl k, .inl (e23 _ _ hb), rfl, z1.symm⟩, q _ H3 (e1.trans e23) W3 (hd.mono (ex_hide e23))⟩
/-! ### several new mutables at once -/
theorem en_len {G : Hp} {σ : List (Option V)} {ds : List (Option PyData)} (E : En K G σ ds) : σ.length = ds.length := by
  induction E with
  | nil => rfl
  | no _ ih => simp [ih]
  | yes _ _ ih => simp [ih]
theorem en_no {G : Hp} {σ : List (Option V)} {ds : List (Option PyData)} (E : En K G σ ds) (i : Nat) : En K G σ (ds.set i none) := by
  induction E generalizing i with
  | nil => exact .nil
  | no r ih =>
    cases i with
    | zero => exact .no r
    | succ i => exact .no (ih i)
  | yes a r ih =>
    cases i with
    | zero => exact .no r
    | succ i => exact .yes a (ih i)
/-- a value laid anew, not yet bound: at p, put aside with ps -/
structure MV (K : PySem.W.Frag) (B : Hp) (o : List Addr) (M : ML) (ps : List Addr) (σ : L2.St) (H : Hp) (ds : List (Option PyData)) (c : MC) (p : Addr) : Prop where
  s : MS K B o M ps σ H ds
  off : p ∉ ps ++ o
  x : ∃ x, H p = some x ∧ Ob K (hide H ((p :: ps) ++ o)) p x c
  nb : B p = none
  en : En K (hide H ((p :: ps) ++ o)) σ ds
  mu : Mu K (hide H ((p :: ps) ++ o)) H σ B o M ps
/-- the fresh thing at p gets the name in slot i -/
theorem MV.bind {B : Hp} {M : ML} {ps : List Addr} {σ : L2.St} {H : Hp} {c : MC} {p : Addr} (v : MV K B o M ps σ H ds c p) {i : Nat} (hi : ∀ m ∈ M, m.1 ≠ i) (hl : i < ds.length) : MS K B o ((i, c) :: M) (p :: ps) (σ.set i (some (.ref p))) H (ds.set i none) := by
  obtain ⟨x, hx, ob⟩ := v.x
  refine ⟨v.s.ex, v.s.ow, v.en.unset i, .cons ?_ hx ob v.nb (fun m => v.off (List.mem_append_right _ m)) (v.mu.slot hi), List.nodup_cons.mpr ⟨fun m => v.off (List.mem_append_left _ m), v.s.nd⟩⟩
  rw [List.getElem?_set_self (by rw [en_len v.en]; exact hl)]
theorem MS.mv {B : Hp} {M : ML} {ps : List Addr} {σ : L2.St} {H : Hp} {c : MC} {p : Addr} {x : HO} (s : MS K B o M ps σ H ds) (hp : H p = none) (ob : Ob K (hide H (ps ++ o)) p x c) : MV K B o M ps σ (upd H p x) ds c p := by
  have np : p ∉ ps ++ o := ow_new s.owA hp
  have g : Ex (hide H (ps ++ o)) (hide (upd H p x) ((p :: ps) ++ o)) := fun a x z => by
    obtain ⟨c, z⟩ := hide_some z
    have na := ne_of_none z hp
    rw [hide_out fun m => by rcases List.mem_cons.mp m with m | m; exact na m; exact c m, upd_ne na]
    exact z
  refine ⟨s.to (ex_new hp), np, ⟨x, upd_same, ob.mono g⟩, ?_, s.en.mono g, (s.mu.ex (Same.refl _) g).ex (ex_new hp) (Same.refl _)⟩
  cases z : B p with
  | none => rfl
  | some x =>
    have y := (hide_some (s.ex p x z)).2
    rw [hp] at y
    cases y
/-- an expression that lays a mutable anew -/
def EvN (K : PySem.W.Frag) (o : List Addr) (M : ML) (te : TE) (ds : List (Option PyData)) (c : MC) : Prop :=
  ∀ B ps σ H, MS K B o M ps σ H ds → ∀ Q : VK, (∀ p H1 x, MS K B o M ps σ H1 ds → H1 p = none → Ex H H1 → Ob K (hide H1 (ps ++ o)) p x c → Q (.ref p) (upd H1 p x)) → te σ H Q
theorem en_list {M : ML} {es : List PyData} (h : ∀ O, EvF K O te ds es) : EvN K o M te ds (.l es) := fun B ps σ H s Q q =>
  h (ps ++ o) σ H s.en s.owA _ fun p vs H1 H2 e1 W1 hp e2 t => by
    subst e2
    exact q p H1 _ (s.to e1) hp e1 (.l t)
theorem en_dict {M : ML} : EvN K o M tDNewK ds (.d []) := fun B ps σ H s Q q p hp => q p H _ s hp (Same.refl _) (.d .nil)
theorem mn_newN {M : ML} {i : Nat} {c : MC} (h : EvN K o M te ds c) (hi : ∀ m ∈ M, m.1 ≠ i) (hl : i < ds.length) : MvN K o (tAsg te (gName i)) M ds ((i, c) :: M) (ds.set i none) := fun B D ps σ H s q =>
  h B ps σ H s _ fun p H1 x s1 hp _ ob => q _ _ (p :: ps) ((s1.mv hp ob).bind hi hl)
/-- d[k] = e -/
theorem mn_putD {M : ML} {k i : Nat} {n : Int} {ms : List (PyData × PyData)} (hk : M[k]? = some (i, .d ms)) (h : EvM K o M te ds e) (h2 : EvM K o M ti ds (.int n)) (hl : ms.length < sizeLine) : MvN K o (tAsg te (gSub (tVar i) ti rSetD)) M ds (M.set k (i, .d (dPut ms n e))) ds := fun B D ps σ H s q => by
  obtain ⟨p, x0, hp, hs, hv, t, b, nn⟩ := s.mu.at hk
  cases t with | @d kvs _ t => ?_
  refine h B ps σ H s _ fun v H1 s1 e1 x => ⟨.ref p, hs, ?_⟩
  refine h2 B ps σ H1 s1 _ fun u H2 s2 e2 y => ?_
  cases dd_int y
  refine ⟨p, _, rfl, .inl ⟨kvs, .inl n, e2 _ _ (e1 _ _ hv), rfl, by rw [dks_len t]; exact hl, rfl⟩, ?_⟩
  exact q _ _ ps (s2.put hk hp (.d (dks_put n (t.mono (ex_hide (e1.trans e2))) (x.mono (ex_hide e2)))))
/-- i, j = two new ones -/
theorem mn_par2 {M : ML} {i j : Nat} {c1 : MC} {es : List PyData} (h1 : EvN K o M ta ds c1) (h2 : ∀ O, EvF K O tb ds es) (hi : ∀ m ∈ M, m.1 ≠ i) (hj : ∀ m ∈ M, m.1 ≠ j) (ij : i ≠ j) (li : i < ds.length) (lj : j < ds.length) :
    MvN K o (tPar i j (tCons ta (tCons tb tNil))) M ds ((j, .l es) :: (i, c1) :: M) ((ds.set i none).set j none) := fun B D ps σ H s q =>
  h1 B ps σ H s _ fun p H1 x s1 hp _ ob => by
    have v := s1.mv hp ob
    have s2 := v.bind hi li
    refine h2 ((p :: ps) ++ o) σ _ v.en s2.owA _ fun p2 vs H2 H3 e2 W2 hp2 eq t => ?_
    subst eq
    have s3 := (s2.to e2).mv hp2 (.l t)
    refine ⟨_, _, rfl, q _ _ (p2 :: p :: ps) (s3.bind (fun m hm => ?_) (by rw [List.length_set]; exact lj))⟩
    rcases List.mem_cons.mp hm with rfl | hm
    · exact ij
    · exact hj m hm
/-- i, j, k, l = a new list, data, data, data -/
theorem mn_four {M : ML} {i j k l : Nat} {t1 t2 t3 t4 : TE} {es : List PyData} {d2 d3 d4 : PyData} (h1 : ∀ O, EvF K O t1 ds es) (h2 : ∀ O, EvD K O t2 ds d2) (h3 : ∀ O, EvD K O t3 ds d3) (h4 : ∀ O, EvD K O t4 ds d4) (hi : ∀ m ∈ M, m.1 ≠ i ∧ m.1 ≠ j ∧ m.1 ≠ k ∧ m.1 ≠ l) (ij : i ≠ j ∧ i ≠ k ∧ i ≠ l) (li : i < ds.length) :
    MvN K o (tAsg (tTup (tCons t1 (tCons t2 (tCons t3 (tCons t4 tNil))))) (gTup K 4 (gCons (gName i) (gCons (gName j) (gCons (gName k) (gCons (gName l) gNil)))))) M ds ((i, .l es) :: M) ((((ds.set i none).set j (some d2)).set k (some d3)).set l (some d4)) := fun B D ps σ H s q =>
  en_list h1 B ps σ H s _ fun p H1 x s1 hp _ ob => by
    have v := s1.mv hp ob
    have s2 := v.bind (fun m hm => (hi m hm).1) li
    refine h2 ((p :: ps) ++ o) σ _ v.en s2.owA _ fun v2 H2 e2 W2 x2 => ?_
    refine h3 ((p :: ps) ++ o) σ _ (v.en.mono (ex_hide e2)) W2 _ fun v3 H3 e3 W3 x3 => ?_
    refine h4 ((p :: ps) ++ o) σ _ (v.en.mono (ex_hide (e2.trans e3))) W3 _ fun v4 H4 e4 W4 x4 => ⟨by show 4 ≤ sizeLine; decide, fun T hT => ?_⟩
    have eT := ex_new (x := .tup [.ref p, v2, v3, v4]) hT
    have s3 := s2.to (e2.trans (e3.trans (e4.trans eT)))
    refine ⟨T, _, rfl, SqT.of upd_same, rfl, _, _, rfl, _, _, rfl, _, _, rfl, _, _, rfl, rfl, ?_⟩
    refine q _ _ (p :: ps) (((s3.set (x2.mono (ex_hide (e3.trans (e4.trans eT)))) (fun m hm => ?_)).set (x3.mono (ex_hide (e4.trans eT))) (fun m hm => ?_)).set (x4.mono (ex_hide eT)) (fun m hm => ?_))
    · rcases List.mem_cons.mp hm with rfl | hm
      · exact ij.1
      · exact (hi m hm).2.1
    · rcases List.mem_cons.mp hm with rfl | hm
      · exact ij.2.1
      · exact (hi m hm).2.2.1
    · rcases List.mem_cons.mp hm with rfl | hm
      · exact ij.2.2
      · exact (hi m hm).2.2.2
theorem mn_parD {M : ML} {i j : Nat} {d1 d2 : PyData} (h1 : EvM K o M ta ds d1) (h2 : EvM K o M tb ds d2) (hi : ∀ m ∈ M, m.1 ≠ i) (hj : ∀ m ∈ M, m.1 ≠ j) : MvN K o (tPar i j (tCons ta (tCons tb tNil))) M ds M ((ds.set i (some d1)).set j (some d2)) := fun B D ps σ H s q =>
  h1 B ps σ H s _ fun v H1 s1 e1 x => h2 B ps σ H1 s1 _ fun u H2 s2 e2 y => ⟨_, _, rfl, q _ H2 ps ((s2.set (x.mono (ex_hide e2)) hi).set y hj)⟩
end
end Ph

namespace K2
open PySem PySem.Spec PyProof.Rows L2 Ph
section
variable {P : Program} {w : World} {K : PySem.W.Frag} {mg : Str → Option Value} {base : Heap}

def only1 (ks : List Int) (c : Int × Int) : Option (List Int) := if c.2 = 0 ∨ c.1 ∈ ks then none else some (c.1 :: ks)
def onlyN (cs : List (Int × Int)) (i : Nat) : Option (List Int) := (cs.take i).foldlM only1 []
theorem onlyN_next {cs : List (Int × Int)} {i : Nat} {c : Int × Int} (h : cs[i]? = some c) : onlyN cs (i + 1) = (onlyN cs i).bind fun ps => only1 ps c := by
  unfold onlyN
  rw [List.take_add_one, h, List.foldlM_append]
  show (List.foldlM only1 [] (List.take i cs) >>= fun s => List.foldlM only1 s [c]) = _
  cases List.foldlM only1 [] (List.take i cs) with
  | none => rfl
  | some ps =>
    show (only1 ps c >>= fun s => List.foldlM only1 s []) = only1 ps c
    cases only1 ps c <;> rfl
theorem onlyN_none {cs : List (Int × Int)} : ∀ (i j : Nat), i ≤ j → onlyN cs i = none → onlyN cs j = none := fun i j l h => by
  have key : ∀ (l : List (Int × Int)) (x : Option (List Int)), x = none → (x >>= fun s => l.foldlM only1 s) = none := fun l x e => by rw [e]; rfl
  unfold onlyN at h ⊢
  have e : cs.take j = cs.take i ++ (cs.drop i).take (j - i) := by
    conv => lhs; rw [show j = i + (j - i) by omega, List.take_add]
  rw [e, List.foldlM_append]
  exact key _ _ h
/-- what stands in 'taken' -/
def dctN (cs : List (Int × Int)) (i : Nat) : List (PyData × PyData) := (cs.take i).foldl (fun ms c => dPut ms c.1 (.bool true)) []
theorem dctN_next {cs : List (Int × Int)} {i : Nat} {c : Int × Int} (h : cs[i]? = some c) : dctN cs (i + 1) = dPut (dctN cs i) c.1 (.bool true) := by
  unfold dctN
  rw [List.take_add_one, h, List.foldl_append]
  rfl
theorem dctN_len (cs : List (Int × Int)) : ∀ i : Nat, i ≤ cs.length → (dctN cs i).length ≤ i
  | 0, _ => Nat.le_refl _
  | i + 1, h => by
    rw [dctN_next (List.getElem?_eq_getElem (show i < cs.length from h))]
    have a := dPut_len (dctN cs i) cs[i].1 (.bool true)
    have b := dctN_len cs i (by omega)
    omega
theorem onlyN_dct {cs : List (Int × Int)} : ∀ (i : Nat) {ks : List Int}, i ≤ cs.length → onlyN cs i = some ks → ∀ k, (dGet (dctN cs i) k).isSome = decide (k ∈ ks)
  | 0, ks, _, h, k => by
    cases Option.some.inj h
    rfl
  | i + 1, ks, hi, h, k => by
    have z : cs[i]? = some cs[i] := List.getElem?_eq_getElem hi
    rw [onlyN_next z] at h
    cases w : onlyN cs i with
    | none => rw [w] at h; cases h
    | some qs =>
      have l := onlyN_dct i (by omega) w k
      rw [w] at h
      have h : only1 qs cs[i] = some ks := h
      unfold only1 at h
      split at h
      · cases h
      · cases Option.some.inj h
        rw [dctN_next z, dGet_put]
        by_cases c : k = cs[i].1
        · rw [if_pos c]
          exact (decide_eq_true (by rw [c]; exact List.mem_cons_self)).symm
        · rw [if_neg c, l]
          exact decide_eq_decide.mpr ⟨fun h => List.mem_cons_of_mem _ h, fun h => by
            rcases List.mem_cons.mp h with h | h
            · exact absurd h c
            · exact h⟩
abbrev s_puts_only : Stmt := top 16
abbrev N_puts_only : List Str := ["history", "taken", "place", "letter"]
theorem sc_puts_only : FnScope N_puts_only ["history"] (defScope s_puts_only) := ⟨rfl, rfl, rfl, by decide +kernel, rfl, by decide +kernel, by decide +kernel⟩
abbrev R_puts_only : List PyData → PyData → Prop := fun as d => ∃ m cs, as = [his m cs] ∧ cs.length ≤ 1000 ∧ d = .bool (onlyN cs cs.length).isSome
theorem ok_puts_only {f : Addr} {fd : FuncData} (F : Fun K "puts_only" "puts_only" s_puts_only f fd) (T : Blt mg)  : FnOk P w K mg base CX0 1 f fd ["history"] (spD K 1 R_puts_only) := by
  refine fn_mut F sc_puts_only rfl fun cdv A outer s H E hr => ?_
  have hu64 : (A.deeper (envOfC "puts_only" (defScope s_puts_only) s.heap.objs.size f cdv)).units + 64 < cLine := hr.units
  have hu1 : (A.deeper (envOfC "puts_only" (defScope s_puts_only) s.heap.objs.size f cdv)).units + 1 < cLine := by omega
  refine ⟨_, (pss_cons (ps_set (i := 1) sc_puts_only.nd rfl (Or.inl rfl) pe_dnewK)
      (pss_cons (ps_for PassesOwn.never rfl (pi_tup (pe_ix ix_tup (pv 0) pe_int (fun _ _ => rfl))) (pg_tup rfl (pgs_cons (pg_name (i := 2) sc_puts_only.nd rfl (Or.inl rfl)) (pgs_cons (pg_name (i := 3) sc_puts_only.nd rfl (Or.inl rfl)) pgs_nil))) (pss_cons (ps_if (PW.pt (pw_or (pt_cmpR op_eq (pv 3) pe_int (nomark _)) (pw_or1 (pt_cmp (pc_din hu1 (pv 2) (pv 1)) rfl)))) (pss_one (ps_ret pe_bl)) pss_nil)
      (pss_one (ps_asg pe_bl (pg_sub (pv 1) (pv 2) (set_dict hu1))))))
      (pss_one (ps_ret pe_bl)))), fun as d hl hR => ?_⟩
  obtain ⟨m, cs, rfl, c1, rfl⟩ := hR
  refine mr_seq (mn_newN en_dict (fun x h => by cases h) (by show 1 < 4; decide)) ?_
  refine mr_for (es := cs.map chg) (fun i => [(1, .d (dctN cs i))]) (fun _ => [some (his m cs), none, none, none]) (fun i => (onlyN cs (i + 1)).isNone) (fun O => ei_tup (ev_op (ev_var (by rfl)) ev_int (od_ixT (d := .tuple (cs.map chg)) rfl))) (fun i e he ok => ?_) fun ok => ?_
  · obtain ⟨c, z, rfl⟩ := chg_at he
    have hi : i < cs.length := (List.getElem?_eq_some_iff.mp z).1
    obtain ⟨ks, hp⟩ : ∃ ps, onlyN cs i = some ps := by
      cases i with
      | zero => exact ⟨[], rfl⟩
      | succ i =>
        have q := ok i (Nat.lt_succ_self i)
        cases w : onlyN cs (i + 1) with
        | none => rw [w] at q; cases q
        | some ps => exact ⟨ps, rfl⟩
    have hd := onlyN_dct i (by omega) hp c.1
    have nx := onlyN_next z
    rw [hp] at nx
    have nx : onlyN cs (i + 1) = only1 ks c := nx
    refine ⟨_, [2, 3], gs_two (by simp) (by simp), fun x h => by
      cases (List.mem_singleton.mp h)
      show (1 : Nat) ∉ [2, 3]
      decide, fun hs => ?_, fun hs => ?_⟩
    · have hn : only1 ks c = none := by rw [← nx]; exact Option.isNone_iff_eq_none.mp hs
      have hN : onlyN cs cs.length = none := onlyN_none (i + 1) _ hi (nx.trans hn)
      rw [hN]
      have hb : (decide (c.2 = 0) || decide (c.1 ∈ ks)) = true := by
        unfold only1 at hn
        split at hn
        · rename_i hh
          simpa using hh
        · cases hn
      refine mr_ifRet (b := true) ?t1 (fun _ => mr_ret ev_bl) (fun q => nomatch q)
      case t1 => exact bm_to (bm_full (eb_or (eb_test (ev_op (ev_var (by rfl)) ev_int od_eqI)) fun _ => (eb_B (ev_to (ev_dIn (ms := dctN cs i) (k := c.1) (ev_var (by rfl)) (ev_var (by rfl))) (by rw [hd]))))) hb
    · have hh : ¬ (c.2 = 0 ∨ c.1 ∈ ks) := fun hh => by
        rw [nx] at hs
        unfold only1 at hs
        rw [if_pos hh] at hs
        cases hs
      have hb : (decide (c.2 = 0) || decide (c.1 ∈ ks)) = false := by
        rw [Bool.eq_false_iff]
        intro q
        exact hh (by simpa using q)
      refine mn_seq (mn_if (b := false) ?t2 (fun q => nomatch q) (fun _ => mn_nil)) ?_
      case t2 => exact bm_to (bm_full (eb_or (eb_test (ev_op (ev_var (by rfl)) ev_int od_eqI)) fun _ => (eb_B (ev_to (ev_dIn (ms := dctN cs i) (k := c.1) (ev_var (by rfl)) (ev_var (by rfl))) (by rw [hd]))))) hb
      rw [dctN_next z]
      refine mn_to (mn_forget 2 (mn_forget 3 (mn_putD (k := 0) (n := c.1) (e := .bool true) rfl (em_pure fun O => ev_bl) (em_pure fun O => ev_var (by rfl)) ?_))) rfl rfl
      have l := dctN_len cs i (by omega)
      rw [sizeLine_eq]
      omega
  · have e : (onlyN cs cs.length).isSome = true := by
      cases h : cs.length with
      | zero => rfl
      | succ n =>
        have q := ok n (by rw [List.length_map]; omega)
        cases w : onlyN cs (n + 1) with
        | none => rw [w] at q; cases q
        | some ps => rfl
    rw [e]
    exact mr_ret ev_bl

end
end K2

namespace K2
open PySem PySem.Spec PyProof.Rows L2 Ph
section
variable {P : Program} {w : World} {K : PySem.W.Frag} {mg : Str → Option Value} {base : Heap}

structure KS where
  text : List Int
  pile : List Int
  puts : Bool
  calm : Bool
def KS.tv (k : KS) (c : Int × Int) : Int := k.text.getD c.1.toNat 0
def KS.c1 (k : KS) (c : Int × Int) : Bool := decide (c.2 = 0) || !decide (k.tv c = 0)
def KS.c2 (k : KS) (c : Int × Int) : Bool := !decide (c.2 = 0) && decide (k.tv c = 0)
def KS.c3 (k : KS) (c : Int × Int) : Bool := decide (c.2 = 0) && decide (k.pile.drop (k.pile.length - 1) = [c.1])
def KS.next (k : KS) (c : Int × Int) : KS :=
  ⟨step k.text c, if k.c2 c = true then k.pile ++ [c.1] else if k.c3 c = true then k.pile.dropLast else k.pile, if k.c1 c = true then false else k.puts, if k.c2 c = true then k.calm else if k.c3 c = true then k.calm else false⟩
def kN (m : Int) (cs : List (Int × Int)) (i : Nat) : KS := (cs.take i).foldl KS.next ⟨zeros m, [], true, true⟩
theorem kN_next {m : Int} {cs : List (Int × Int)} {i : Nat} {c : Int × Int} (h : cs[i]? = some c) : kN m cs (i + 1) = (kN m cs i).next c := by
  unfold kN
  rw [List.take_add_one, h, List.foldl_append]
  rfl
theorem kN_inv {m : Int} (h1 : 1 ≤ m) {cs : List (Int × Int)} : ∀ i : Nat, i ≤ cs.length → ((kN m cs i).text.length : Int) = m ∧ (kN m cs i).pile.length ≤ i
  | 0, _ => ⟨zeros_len h1, Nat.le_refl _⟩
  | i + 1, h => by
    obtain ⟨a, b⟩ := kN_inv h1 (cs := cs) i (by omega)
    rw [kN_next (List.getElem?_eq_getElem (show i < cs.length from h))]
    refine ⟨by show ((step _ _).length : Int) = m; unfold step; rw [List.length_set]; exact a, ?_⟩
    show (if _ then _ else _ : List Int).length ≤ i + 1
    split
    · rw [List.length_append]
      show (kN m cs i).pile.length + 1 ≤ i + 1
      omega
    · split
      · rw [List.length_dropLast]
        omega
      · omega
theorem cut_init {α : Type} (l : List α) : (l.drop (HT.sIx l.length 0 none)).take (HT.sIx l.length l.length (some (-1)) - HT.sIx l.length 0 none) = l.dropLast := by
  have e : HT.sIx l.length l.length (some (-1)) = l.length - 1 := by
    unfold HT.sIx
    simp
    omega
  have e2 : HT.sIx l.length 0 none = 0 := rfl
  rw [e, e2, List.drop_zero, Nat.sub_zero]
  exact List.dropLast_eq_take.symm
theorem ef_initI {o : List Addr} {ds : List (Option PyData)} {ta : TE} {ps : List Int} (h : EvD K o ta ds (.list (ps.map PyData.int))) : EvF K o (tSl (rSlL K) ta tNoPart (tPart (tUn (rU fun i => .int (-i)) (tC (.int 1))))) ds (ps.dropLast.map PyData.int) := by
  have z := ef_slHi h (ev_neg (ev_int (i := 1)))
  rw [cut_init] at z
  rw [List.map_dropLast]
  exact z
abbrev s__law_kinds : Stmt := top 27
abbrev N__law_kinds : List Str := ["past", "text", "pile", "puts", "calm", "place", "letter"]
theorem sc__law_kinds : FnScope N__law_kinds ["past"] (defScope s__law_kinds) := ⟨rfl, rfl, rfl, by decide +kernel, rfl, by decide +kernel, by decide +kernel⟩
abbrev R__law_kinds : List PyData → PyData → Prop := fun as d => ∃ m cs, as = [his m cs] ∧ Hist m cs ∧ d = .list [.bool (kN m cs cs.length).puts, .bool (kN m cs cs.length).calm]
theorem ok__law_kinds {f : Addr} {fd : FuncData} (F : Fun K "_law_kinds" "_law_kinds" s__law_kinds f fd) (T : Blt mg)  : FnOk P w K mg base CX0 1 f fd ["past"] (spD K 1 R__law_kinds) := by
  refine fn_mut F sc__law_kinds rfl fun cdv A outer s H E hr => ?_
  have hu64 : (A.deeper (envOfC "_law_kinds" (defScope s__law_kinds) s.heap.objs.size f cdv)).units + 64 < cLine := hr.units
  have hu1 : (A.deeper (envOfC "_law_kinds" (defScope s__law_kinds) s.heap.objs.size f cdv)).units + 1 < cLine := by omega
  refine ⟨_, (pss_cons (ps_asg (pe_tup (pa_cons (pe_op op_rep (pe_lst (pa_cons pe_int pa_nil)) (pe_ix ix_tup (pv 0) pe_int (fun _ _ => rfl))) (pa_cons (pe_lst pa_nil) (pa_cons pe_bl (pa_cons pe_bl pa_nil))))) (pg_tup rfl (pgs_cons (pg_name (i := 1) sc__law_kinds.nd rfl (Or.inl rfl)) (pgs_cons (pg_name (i := 2) sc__law_kinds.nd rfl (Or.inl rfl)) (pgs_cons (pg_name (i := 3) sc__law_kinds.nd rfl (Or.inl rfl)) (pgs_cons (pg_name (i := 4) sc__law_kinds.nd rfl (Or.inl rfl)) pgs_nil))))))
      (pss_cons (ps_for PassesOwn.never rfl (pi_tup (pe_ix ix_tup (pv 0) pe_int (fun _ _ => rfl))) (pg_tup rfl (pgs_cons (pg_name (i := 5) sc__law_kinds.nd rfl (Or.inl rfl)) (pgs_cons (pg_name (i := 6) sc__law_kinds.nd rfl (Or.inl rfl)) pgs_nil))) (pss_cons (ps_if (PW.pt (pw_or (pt_cmpR op_eq (pv 6) pe_int (nomark _)) (pw_or1 (pt_cmpR op_ne (pe_ix ix_list (pv 1) (pv 5) (fun _ _ => rfl)) pe_int (nomark _))))) (pss_one (ps_set (i := 3) sc__law_kinds.nd rfl (Or.inl rfl) pe_bl)) pss_nil)
      (pss_cons (ps_if (PW.pt (pw_and (pt_cmpR op_ne (pv 6) pe_int (nomark _)) (pw_and1 (pt_cmpR op_eq (pe_ix ix_list (pv 1) (pv 5) (fun _ _ => rfl)) pe_int (nomark _))))) (pss_one (ps_set (i := 2) sc__law_kinds.nd rfl (Or.inl rfl) (pe_op op_cat (pv 2) (pe_lst (pa_cons (pv 5) pa_nil))))) (pss_one (ps_if (PW.pt (pw_and (pt_cmpR op_eq (pv 6) pe_int (nomark _)) (pw_and1 (pt_cmpR (op_eqD hu64) (pe_slice sl_list (pv 2) (po_some (pe_un un_neg pe_int)) po_none) (pe_lst (pa_cons (pv 5) pa_nil)) (nomark _))))) (pss_one (ps_set (i := 2) sc__law_kinds.nd rfl (Or.inl rfl) (pe_slice sl_list (pv 2) po_none (po_some (pe_un un_neg pe_int))))) (pss_one (ps_set (i := 4) sc__law_kinds.nd rfl (Or.inl rfl) pe_bl)))))
      (pss_one (ps_asg (pv 6) (pg_sub (pv 1) (pv 5) set_list))))))
      (pss_one (ps_ret (pe_lst (pa_cons (pv 3) (pa_cons (pv 4) pa_nil))))))), fun as d hl hR => ?_⟩
  obtain ⟨m, cs, rfl, hh, rfl⟩ := hR
  obtain ⟨m1, m2, c1, c2⟩ := hh
  refine mr_seq (mn_four (es := (zeros m).map PyData.int) (d2 := .list (([] : List Int).map PyData.int)) (fun O => ?e1) (fun O => ev_lst ea_nil (by show 0 ≤ sizeLine; decide)) (fun O => ev_bl) (fun O => ev_bl) (fun x h => by cases h) ⟨by decide, by decide, by decide⟩ (by show 1 < 7; decide)) ?_
  case e1 =>
    have z := ef_rep (K := K) (o := O) (n := m) (ds := startD N__law_kinds [his m cs]) (ev_lst (ea_cons (ev_int (i := 0)) ea_nil) (by show 1 ≤ sizeLine; decide)) (ev_op (ev_var (i := 0) (by rfl)) (ev_int (i := 0)) (od_ixT (d := .int m) rfl)) (by omega) (by omega) (by show 1 * m.toNat ≤ sizeLine; rw [sizeLine_eq]; omega)
    have e0 : (List.replicate m.toNat [PyData.int 0]).flatten = (zeros m).map PyData.int := by
      rw [flat_one]
      unfold zeros
      rw [List.map_replicate]
    rw [e0] at z
    exact z
  refine mr_to (mr_seq (mn_for (es := cs.map chg) (fun i => [(1, .l ((kN m cs i).text.map PyData.int))]) (fun i => [some (his m cs), none, some (.list ((kN m cs i).pile.map PyData.int)), some (.bool (kN m cs i).puts), some (.bool (kN m cs i).calm), none, none]) (fun O => ei_tup (ev_op (ev_var (by rfl)) ev_int (od_ixT (d := .tuple (cs.map chg)) rfl))) fun i e he => ?_) (mr_ret (ev_lst (ea_cons (ev_var (by rfl)) (ea_cons (ev_var (by rfl)) ea_nil)) (by show 2 ≤ sizeLine; decide)))) ?_
  · obtain ⟨c, z, rfl⟩ := chg_at he
    have hi : i < cs.length := (List.getElem?_eq_some_iff.mp z).1
    obtain ⟨d1, d2, d3⟩ := c2 c (List.mem_of_getElem? z)
    obtain ⟨l1, l2⟩ := kN_inv m1 (cs := cs) i (by omega)
    rw [kN_next z]
    generalize kN m cs i = k at l1 l2
    have hx : atI (k.text.map PyData.int) c.1 = some (.int (k.tv c)) := by
      unfold atI
      rw [ixN_in d1 (by rw [List.length_map, l1]; exact d2)]
      show (k.text.map PyData.int)[c.1.toNat]? = _
      rw [List.getElem?_map]
      have lt : c.1.toNat < k.text.length := by omega
      unfold KS.tv
      rw [List.getElem?_eq_getElem lt, List.getD_eq_getElem?_getD, List.getElem?_eq_getElem lt]
      rfl
    refine ⟨_, [5, 6], gs_two (by simp) (by simp), fun x h => by
      cases (List.mem_singleton.mp h)
      show (1 : Nat) ∉ [5, 6]
      decide, ?_⟩
    refine mn_seq (M1 := [(1, .l (k.text.map PyData.int))]) (ds1 := [some (his m cs), none, some (.list (k.pile.map PyData.int)), some (.bool (if k.c1 c = true then false else k.puts)), some (.bool k.calm), some (.int c.1), some (.int c.2)]) (mn_if (b := k.c1 c) ?t1 (fun h => mn_to (mn_set (e := .bool false) (em_pure fun O => ev_bl) ?n1) rfl (by rw [if_pos h]; rfl)) (fun h => mn_to mn_nil rfl (by rw [if_neg (by rw [h]; exact Bool.false_ne_true)]; rfl))) ?_
    case t1 => exact bm_full (eb_or (eb_test (ev_op (ev_var (by rfl)) ev_int od_eqI)) fun _ => (eb_test (ev_op (ev_op (ev_var (by rfl)) (ev_var (by rfl)) (od_ixL (d := .int (k.tv c)) hx)) ev_int od_neI)))
    case n1 =>
      intro x h
      cases (List.mem_singleton.mp h)
      show (1 : Nat) ≠ 3
      decide
    refine mn_seq (M1 := [(1, .l (k.text.map PyData.int))]) (ds1 := [some (his m cs), none, some (.list ((k.next c).pile.map PyData.int)), some (.bool (if k.c1 c = true then false else k.puts)), some (.bool (k.next c).calm), some (.int c.1), some (.int c.2)]) ?_ ?_
    · refine mn_if (b := k.c2 c) ?t2 (fun h => mn_to (mn_set (e := .list ((k.pile ++ [c.1]).map PyData.int)) (em_pure fun O => ?v2) ?n2) rfl ?q2) fun h => mn_if (b := k.c3 c) ?t3 (fun h3 => mn_to (mn_set (e := .list (k.pile.dropLast.map PyData.int)) (em_pure fun O => ev_new (ef_initI (ev_var (by rfl)))) ?n3) rfl ?q3) (fun h3 => mn_to (mn_set (e := .bool false) (em_pure fun O => ev_bl) ?n4) rfl ?q4)
      case t2 => exact bm_full (eb_and (eb_test (ev_op (ev_var (by rfl)) ev_int od_neI)) fun _ => (eb_test (ev_op (ev_op (ev_var (by rfl)) (ev_var (by rfl)) (od_ixL (d := .int (k.tv c)) hx)) ev_int od_eqI)))
      case v2 =>
        refine ev_to (ev_op (ev_var (by rfl)) (ev_lst (ea_cons (ev_var (by rfl)) ea_nil) (by show 1 ≤ sizeLine; decide)) (od_cat (as := k.pile.map PyData.int) (bs := [.int c.1]) ?_)) ?_
        · rw [List.length_map, sizeLine_eq]
          show k.pile.length + 1 ≤ _
          omega
        · rw [List.map_append]
          rfl
      case t3 => exact bm_to (bm_full (eb_and (eb_test (ev_op (ev_var (by rfl)) ev_int od_eqI)) fun _ => (eb_test (ev_op (ev_new (ef_lastI (ps := k.pile) (ev_var (by rfl)))) (ev_lst (ea_cons (ev_var (by rfl)) ea_nil) (by show 1 ≤ sizeLine; decide)) (od_eqD' (ints_shaped _) (ints_shaped [c.1])))))) (by
          show (decide (c.2 = 0) && PyData.eqv _ (.list ([c.1].map PyData.int))) = _
          rw [ints_eqv]
          rfl)
      case n2 => intro x h; cases (List.mem_singleton.mp h); show (1 : Nat) ≠ 2; decide
      case n3 => intro x h; cases (List.mem_singleton.mp h); show (1 : Nat) ≠ 2; decide
      case n4 => intro x h; cases (List.mem_singleton.mp h); show (1 : Nat) ≠ 4; decide
      case q2 =>
        unfold KS.next
        simp only [h, if_true]
        rfl
      case q3 =>
        unfold KS.next
        simp only [h, h3, if_true]
        rfl
      case q4 =>
        unfold KS.next
        simp only [h, h3]
        rfl
    · refine mn_to (mn_forget 5 (mn_forget 6 (mn_item (k := 0) (n := c.1) (j := c.1.toNat) (e := .int c.2) rfl (em_pure fun O => ev_var (by rfl)) (em_pure fun O => ev_var (by rfl)) (ixN_in d1 (by rw [List.length_map, l1]; exact d2))))) ?_ rfl
      show [(1, MC.l ((k.text.map PyData.int).set c.1.toNat (.int c.2)))] = [(1, .l ((step k.text c).map PyData.int))]
      unfold step
      rw [List.map_set]
  · rw [List.length_map]

end
end K2

namespace K2
open PySem PySem.Spec PyProof.Rows L2 Ph
section
variable {P : Program} {w : World} {K : PySem.W.Frag} {mg : Str → Option Value} {base : Heap}
abbrev s__law_heard : Stmt := top 25
abbrev N__law_heard : List Str := ["text", "change", "error"]
theorem sc__law_heard : FnScope N__law_heard ["text", "change"] (defScope s__law_heard) := ⟨rfl, rfl, rfl, by decide +kernel, rfl, by decide +kernel, by decide +kernel⟩
abbrev R__law_heard : List PyData → PyData → Prop := fun as d => ∃ (ns : List Int) (c : Int × Int), as = [nums ns, chg c] ∧ 0 ≤ c.1 ∧ ns.length ≤ 1000 ∧ d = if c.1 < ns.length then nums (step ns c) else .list [.str "place", .int c.1]
theorem ok__law_heard {f fc C fI : Addr} {fd fdc fdI : FuncData} (F : Fun K "_law_heard" "_law_heard" s__law_heard f fd) (T : Blt mg) (N : NP K mg C fI fdI)
    (gC : mg "changed" = some (.ref fc)) (kC : PySem.W.keepIn K (.ref fc) = true) (bC : Binds K fdc ["text", "change"] []) (FC : FnOk P w K mg base (L2.CX P w) 3 fc fdc ["text", "change"] (spChanged K C)) : FnOk P w K mg base CX0 4 f fd ["text", "change"] (spD K 2 R__law_heard) := by
  refine F.ok sc__law_heard (fun vs H Q E h => ?_) (fun cdv A outer s H vs Q E hr h => ?_)
  · obtain ⟨as, d, h, hl, _⟩ := h
    rw [h.length, hl]
    rfl
  · obtain ⟨as, d, h, hl, ⟨ns, c, rfl, c0, hn, rfl⟩, q⟩ := h
    refine ⟨_, pss_one (ps_try_as (i := 2) rfl rfl sc__law_heard.nd rfl rfl ⟨by rfl, by decide, .inl N.gl⟩ takes0 (fun W pn xe tk po => pss_one (ps_ret (pe_callS FC hr (by rfl) gC kC bC (fun σ => passAt tk σ) (pa_cons (pv 0) (pa_cons (pv 1) pa_nil)))))
      (fun a oe cls d pn hz hf => pss_one (ps_ret (pe_lst (pa_cons pe_str (pa_cons (pe_xf N.xf N.no hz hf (pv 2)) pa_nil)))))), ?_⟩
    cases h with
    | @cons v0 _ _ _ h0 t =>
      cases t with
      | @cons v1 _ _ _ h1 t =>
        cases t
        refine ⟨v0, rfl, v1, rfl, ns, c, .cons h0 (.cons h1 .nil), c0, hn, fun lt v H' e x => ?_, fun ge dd H' e hd => ?_⟩
        · rw [if_pos lt] at q
          exact q v H' e x
        · rw [if_neg (by omega)] at q
          refine ⟨true, N.te, fun _ a ha => ?_, fun z => nomatch z⟩
          refine ⟨.ref a, rfl, rfl, rfl, dd, _, .int c.1, rfl, hd, by simp, by show 2 ≤ sizeLine; decide, fun p hp => q _ _ (e.trans (ex_new hp)) (.lst upd_same (.cons (.str _) (.cons (.int _) .nil)))⟩
end
end K2

namespace K2
open PySem PySem.Spec PyProof.Rows L2 Ph
section
variable {P : Program} {w : World} {K : PySem.W.Frag} {mg : Str → Option Value} {base : Heap}

/-- the first cells; a later one added to its place -/
def cell0 (ns : List Int) (top : Int) : List Int := if ns.take top.toNat = [] then [0] else ns.take top.toNat
def cellStep (top : Int) (cs : List Int) (k : Nat) (x : Int) : List Int := cs.set ((k : Int) % top).toNat (cs.getD ((k : Int) % top).toNat 0 + x * ((k : Int) + 2))
def cellN (ns : List Int) (top : Int) : Nat → List Int
  | 0 => cell0 ns top
  | i + 1 => cellStep top (cellN ns top i) i ((ns.drop top.toNat).getD i 0)
theorem cellN_len (ns : List Int) (top : Int) : ∀ i, (cellN ns top i).length = (cell0 ns top).length
  | 0 => rfl
  | i + 1 => by
    show (cellStep _ _ _ _).length = _
    unfold cellStep
    rw [List.length_set, cellN_len ns top i]
theorem cell0_len {ns : List Int} {top : Int} (h : 1 ≤ top) : 1 ≤ (cell0 ns top).length ∧ ((cell0 ns top).length : Int) ≤ top := by
  unfold cell0
  split
  · exact ⟨Nat.le_refl _, by show (1 : Int) ≤ top; exact h⟩
  · rename_i c
    have z : (ns.take top.toNat).length ≠ 0 := fun z => c (List.eq_nil_of_length_eq_zero z)
    refine ⟨by omega, ?_⟩
    have := List.length_take_le top.toNat ns
    omega
theorem cell0_full {ns : List Int} {top : Int} (h : 1 ≤ top) (l : top.toNat < ns.length) : ((cell0 ns top).length : Int) = top := by
  have z : (ns.take top.toNat).length = top.toNat := by rw [List.length_take]; omega
  unfold cell0
  rw [if_neg (fun c => by rw [c] at z; simp at z; omega)]
  omega
theorem sIx_int (n d : Nat) {k : Int} (h : 0 ≤ k) : HT.sIx n d (some k) = min k.toNat n := by
  obtain ⟨j, rfl⟩ := Int.eq_ofNat_of_zero_le h
  rw [HT.sIx_nat, Int.toNat_natCast]
theorem cutV_hi (xs : List V) {k : Int} (h : 0 ≤ k) : cutV xs none (some k) = xs.take k.toNat := by
  unfold cutV
  rw [sIx_int _ _ h, show HT.sIx xs.length 0 none = 0 from rfl, List.drop_zero, Nat.sub_zero]
  by_cases c : k.toNat ≤ xs.length
  · rw [Nat.min_eq_left c]
  · rw [Nat.min_eq_right (by omega), List.take_length, List.take_of_length_le (by omega)]
theorem cutV_two (xs : List V) {k : Int} (h : 0 ≤ k) (l : xs.length ≤ 63) : cutV xs (some k) (some 63) = xs.drop k.toNat := by
  unfold cutV
  rw [sIx_int _ _ h, sIx_int _ _ (by decide : (0 : Int) ≤ 63)]
  by_cases c : k.toNat ≤ xs.length
  · rw [Nat.min_eq_left c]
    refine List.take_of_length_le ?_
    rw [List.length_drop]
    have : min (63 : Int).toNat xs.length = xs.length := Nat.min_eq_right (by show xs.length ≤ 63; exact l)
    omega
  · rw [show min k.toNat xs.length = xs.length from Nat.min_eq_right (by omega), List.drop_length, List.drop_of_length_le (by omega), List.take_nil]
theorem enum_at {ns : List Int} {i : Nat} {e : PyData} (h : (enumD (ns.map PyData.int))[i]? = some e) : i < ns.length ∧ e = .tuple [.int (i : Nat), .int (ns.getD i 0)] := by
  unfold enumD at h
  rw [List.getElem?_mapIdx, List.getElem?_map] at h
  cases z : ns[i]? with
  | none => rw [z] at h; cases h
  | some x =>
    rw [z] at h
    refine ⟨(List.getElem?_eq_some_iff.mp z).1, ?_⟩
    rw [List.getD_eq_getElem?_getD, z]
    exact (Option.some.inj h).symm
theorem cells_rest {tb : TS} {D : Ends} {a p : Addr} {ns : List Int} {top : Int} {H H' : Hp} (hS : SqL K H a (ns.map V.int)) (hl : ns.length ≤ 63) (t1 : 1 ≤ top) (e : Ex H H') (n : H p = none) (hp : H' p = some (.lst ((cell0 ns top).map V.int)))
    (hb : ∀ (cs : List Int) (i : Nat) (x : Int), (cs.length : Int) = top → i ≤ 63 → MvN K [] tb [(2, .l (cs.map PyData.int))] [none, some (.int top), none, some (.int i), some (.int x), none] [(2, .l ((cellStep top cs i x).map PyData.int))] [none, some (.int top), none, none, none, none])
    (q : ∀ p H' ms, Ex H H' → H p = none → H' p = some (.lst ((ms : List Int).map V.int)) → 1 ≤ ms.length → (ms.length : Int) ≤ top → D.rt (.ref p) H') :
    tSeq (tFor (iEnum K (tCons (tSl (rSlL K) (tVar 0) (tPart (tVar 1)) (tPart (tC (.int 63)))) tNil)) (gTup K 2 (gCons (gName 3) (gCons (gName 4) gNil))) tb) (tRet (tVar 2)) D [some (.ref a), some (.int top), some (.ref p), none, none, none] H' := by
  have s0 : MS K H [] [(2, .l ((cellN ns top 0).map PyData.int))] [p] [some (.ref a), some (.int top), some (.ref p), none, none, none] H' [none, some (.int top), none, none, none, none] :=
    ⟨by rw [hide_nil]; exact e, own0, .no (.yes (.int top) (.no (.no (.no (.no .nil))))), .cons rfl hp (.l (dds_of_ints _)) n (by simp) .nil, List.nodup_cons.mpr ⟨by simp, List.nodup_nil⟩⟩
  refine for_mutG (D := { D with nx := fun σ H => tRet (tVar 2) D σ H }) (es := enumD ((ns.drop top.toNat).map PyData.int)) (fun i => [(2, .l ((cellN ns top i).map PyData.int))]) (fun _ => [none, some (.int top), none, none, none, none]) (fun _ => True) (fun R r => ?_) s0 True.intro (fun i en he _ => ?_) fun σ' H2 ps' _ s' => ?_
  · refine ⟨.ref a, rfl, .int top, rfl, top, rfl, 63, rfl, a, ns.map V.int, rfl, Same.seq e hS, fun p4 h4 => ⟨p4, _, rfl, SqL.of upd_same, r _ _ (ex_new h4) (ow_mono s0.owA (ex_new h4)) (it_enum (hide_new s0.owA h4) ?_)⟩⟩
    rw [cutV_two _ (by omega) (by rw [List.length_map]; exact hl), ← List.map_drop]
    exact dds_of_ints _
  · obtain ⟨hi, rfl⟩ := enum_at he
    rw [List.length_drop] at hi
    refine ⟨_, [3, 4], gs_two (by simp) (by simp), fun x h => by
      cases (List.mem_singleton.mp h)
      show (2 : Nat) ∉ [3, 4]
      decide, fun B' ps σ2 H2 D' _ _ _ s2 k => ?_⟩
    refine hb _ i _ ?_ (by omega) B' D' ps σ2 H2 s2 fun σ' H' ps' s' => k σ' H' ps' True.intro s'
    rw [cellN_len]
    exact cell0_full t1 (by omega)
  · have l := cellN_len ns top (enumD ((ns.drop top.toNat).map PyData.int)).length
    obtain ⟨p', x, hp', hs, hv, ob, b, _⟩ := s'.mu.at (k := 0) rfl
    cases ob with | @l vs _ t => ?_
    have ev := dds_ints t
    subst ev
    have c := cell0_len (ns := ns) t1
    refine ⟨.ref p', hs, q p' H2 _ (by have z := s'.ex; rw [hide_nil] at z; exact z) b hv (by rw [l]; exact c.1) (by rw [l]; exact c.2)⟩
abbrev s__law_cells : Stmt := top 21
abbrev N__law_cells : List Str := ["script", "top", "cells", "k", "cell", "at_so"]
theorem sc__law_cells : FnScope N__law_cells ["script", "top"] (defScope s__law_cells) := ⟨rfl, rfl, rfl, by decide +kernel, rfl, by decide +kernel, by decide +kernel⟩

theorem ok__law_cells {f : Addr} {fd : FuncData} (F : Fun K "_law_cells" "_law_cells" s__law_cells f fd) (T : Blt mg) : FnOk P w K mg base CX0 1 f fd ["script", "top"] (spCells K) := by
  refine F.ok sc__law_cells (fun vs H Q E h => ?_) (fun cdv A outer s H vs Q E hr h => ?_)
  · obtain ⟨a, ns, top, rfl, _⟩ := h
    rfl
  · obtain ⟨a, ns, top, rfl, hS, hlen, t1, t2, q⟩ := h
    refine ⟨_, (pss_cons (ps_set (i := 2) sc__law_cells.nd rfl (Or.inl rfl) (pe_orT (pe_callTy call_list_of (by rfl) T.list (by decide +kernel) (pa_cons (pe_slice sl_list (pv 0) po_none (po_some (pv 1))) pa_nil)) (pe_one (pe_lst (pa_cons pe_int pa_nil)))))
      (pss_cons (ps_for PassesOwn.never rfl (pi_enum (by rfl) T.enumerate (pa_cons (pe_slice sl_list (pv 0) (po_some (pv 1)) (po_some pe_int)) pa_nil)) (pg_tup rfl (pgs_cons (pg_name (i := 3) sc__law_cells.nd rfl (Or.inl rfl)) (pgs_cons (pg_name (i := 4) sc__law_cells.nd rfl (Or.inl rfl)) pgs_nil))) (pss_cons (ps_set (i := 5) sc__law_cells.nd rfl (Or.inl rfl) (pe_op op_mod (pe_callTy call_int1 (by rfl) T.int (by decide +kernel) (pa_cons (pv 3) pa_nil)) (pv 1)))
      (pss_one (ps_asg (pe_op op_add (pe_ix ix_list (pv 2) (pv 5) (fun _ _ => rfl)) (pe_op op_mul (pv 4) (pe_op op_add (pv 3) pe_int))) (pg_sub (pv 2) (pv 5) set_list)))))
      (pss_one (ps_ret (pv 2))))), ?_⟩
    have hb : ∀ (cs : List Int) (i : Nat) (x : Int), (cs.length : Int) = top → i ≤ 63 → MvN K [] (tSeq (tAsg (tOp (rI (fun _ j => 0 < j) fun i j => .int (i % j)) (tCB rInt (tCons (tVar 3) tNil)) (tVar 1)) (gName 5)) (tAsg (tOp (rI0 fun i j => .int (i + j)) (tOp (rIxL K) (tVar 2) (tVar 5)) (tOp (rI CMul fun i j => .int (i * j)) (tVar 4) (tOp (rI0 fun i j => .int (i + j)) (tVar 3) (tC (.int 2))))) (gSub (tVar 2) (tVar 5) rSetL))) [(2, .l (cs.map PyData.int))] [none, some (.int top), none, some (.int i), some (.int x), none] [(2, .l ((cellStep top cs i x).map PyData.int))] [none, some (.int top), none, none, none, none] := by
      intro cs i x hl h63
      have b0 : 0 ≤ (i : Int) % top := Int.emod_nonneg _ (by omega)
      have b1 : (i : Int) % top < top := Int.emod_lt_of_pos _ (by omega)
      have lt : ((i : Int) % top).toNat < cs.length := by omega
      have hx : atI (cs.map PyData.int) ((i : Int) % top) = some (.int (cs.getD ((i : Int) % top).toNat 0)) := by
        unfold atI
        rw [ixN_in b0 (by rw [List.length_map]; omega)]
        show (cs.map PyData.int)[((i : Int) % top).toNat]? = _
        rw [List.getElem?_map, List.getElem?_eq_getElem lt, List.getD_eq_getElem?_getD, List.getElem?_eq_getElem lt]
        rfl
      refine mn_seq (mn_set (e := .int ((i : Int) % top)) (em_pure fun O => ?h1) ?n1) ?_
      case h1 => exact ev_op (ev_cb (ea_cons (ev_var (by rfl)) ea_nil) cb_int) (ev_var (by rfl)) (od_mod (by omega))
      case n1 => intro x h; cases (List.mem_singleton.mp h); show (2 : Nat) ≠ 5; decide
      refine mn_to (mn_forget 3 (mn_forget 4 (mn_forget 5 (mn_item (k := 0) (n := (i : Int) % top) (j := ((i : Int) % top).toNat) (e := .int (cs.getD ((i : Int) % top).toNat 0 + x * ((i : Int) + 2))) rfl ?h2 ?h3 (ixN_in b0 (by rw [List.length_map]; omega)))))) ?_ rfl
      case h2 => exact em_full (ev_op (ev_op (ev_var (by rfl)) (ev_var (by rfl)) (od_ixL hx)) (ev_op (ev_var (by rfl)) (ev_op (ev_var (by rfl)) ev_int od_add) (od_mul (Or.inr ⟨by omega, by omega⟩))) od_add) (fz_scal rfl)
      case h3 => exact em_pure fun O => ev_var (by rfl)
      · show [(2, MC.l ((cs.map PyData.int).set _ (.int _)))] = [(2, .l ((cellStep top cs i x).map PyData.int))]
        unfold cellStep
        rw [List.map_set]
    refine ⟨.ref a, rfl, .int top, rfl, top, rfl, a, ns.map V.int, rfl, hS, fun p1 h1 => ⟨p1, _, rfl, .inl (SqL.of upd_same), fun p2 h2 => ⟨_, .inl ⟨_, SqL.of upd_same, rfl⟩, ?_⟩⟩⟩
    rw [cutV_hi _ (by omega), ← List.map_take] at h2 ⊢
    have n2 : H p2 = none := (ex_new h1).free h2
    have e2 : Ex H (upd (upd H p1 (.lst ((ns.take top.toNat).map V.int))) p2 (.lst ((ns.take top.toNat).map V.int))) := (ex_new h1).trans (ex_new h2)
    cases z : ns.take top.toNat with
    | nil =>
      rw [z] at e2 h2
      refine iteF ⟨by show 1 ≤ sizeLine; decide, fun p3 h3 => ?_⟩
      refine cells_rest hS hlen t1 (e2.trans (ex_new h3)) (e2.free h3) ?_ hb q
      rw [upd_same]
      unfold cell0
      rw [if_pos z]
      rfl
    | cons y ys =>
      rw [z] at e2 h2
      refine iteT ?_
      refine cells_rest hS hlen t1 e2 n2 ?_ hb q
      rw [upd_same]
      unfold cell0
      rw [if_neg (by rw [z]; exact List.cons_ne_nil _ _), z]
end
end K2

namespace PySem
open Sem (wp)
open AutoSeq1 (wpAny_loadPart')
namespace EnT
section
variable {prog : Program} {w : World} {A : Around} {E : Value → Shared → Prop} {s : Shared} {e it t T : Addr} {i : Nat} {xs : Array Value} {x old : Value} {f : Bool} {oT : Obj}
/-- the next pair, while the pair handed out before is still there -/
theorem step_held {Q : Value → Shared → Prop} (a0 : IsEnumHeld s.heap e it i old T f) (aT : s.heap.get? T = some oT) (Te : T ≠ e) (Ti : T ≠ it) (b0 : s.heap.IsTupleIter it t i) (bt : s.heap.IsTuple t xs) (bx : xs[i]? = some x) (ne : e ≠ it)
    (k : ∀ h', IsEnumHeld h' e it ((i : Int) + 1) old T true → h'.IsTupleIter it t (i + 1) → h'.get? s.heap.objs.size = some { cls := .type "tuple", data := .seq #[.int i s.toks, x] } → h'.objs.size = s.heap.objs.size + 1 →
      (∀ b o, b ≠ e → b ≠ it → s.heap.get? b = some o → h'.get? b = some o) → Q (some (.ref s.heap.objs.size) |>.getD .none) { s with heap := h', toks := s.toks + 1 }) :
    wpAny (model prog w) A (Builtin.«enumerate.__next__» ⟨[.ref e], []⟩) (fun fin s' => ∃ v, fin = .done (.ret v) ∧ Q v s') E s := by
  obtain ⟨hp, gg, dd, tk, os⟩ := s
  show wpAny _ _ (field (.ref e) 2 >>= _) _ _ _
  refine wpAny_bind (wpAny_field a0 rfl (x := .ref it) rfl ?_)
  refine wpAny_bind (wpAny_nextOf_tuple_item b0 bt bx fun h1 b1 c1 => ?_)
  have c1 : Heap.SameBut it hp h1 := c1
  have a1 : IsEnumHeld h1 e it i old T f := (c1.2 e ne).trans a0
  show wpAny _ _ (field (.ref e) 3 >>= _) _ _ ⟨h1, gg, dd, tk, os⟩
  refine wpAny_bind (wpAny_field a1 rfl (x := rawInt i) rfl ?_)
  show wpAny _ _ (field (.ref e) 4 >>= _) _ _ ⟨h1, gg, dd, tk, os⟩
  refine wpAny_bind (wpAny_field a1 rfl (x := .none) rfl ?_)
  show wpAny _ _ (mkInt i >>= _) _ _ ⟨h1, gg, dd, tk, os⟩
  refine wpAny_bind (wpAny_mkInt ?_)
  show wpAny _ _ (setField (.ref e) 3 (rawInt ((i : Int) + 1)) >>= _) _ _ ⟨h1, gg, dd, tk + 1, os⟩
  refine wpAny_bind (wpAny_setField_rec a1 (by simp) fun h2 a2 c2 => ?_)
  have c2 : Heap.SameBut e h1 h2 := c2
  have a2 : IsEnumHeld h2 e it ((i : Int) + 1) old T f := a2
  show wpAny _ _ (setField (.ref e) 4 .none >>= _) _ _ ⟨h2, gg, dd, tk + 1, os⟩
  refine wpAny_bind (wpAny_setField_rec a2 (by simp) fun h3 a3 c3 => ?_)
  have c3 : Heap.SameBut e h2 h3 := c3
  have a3 : IsEnumHeld h3 e it ((i : Int) + 1) old T f := a3
  show wpAny _ _ (newTuple [.int i tk, x] >>= _) _ _ ⟨h3, gg, dd, tk + 1, os⟩
  refine wpAny_bind (wpAny_newTuple ?_)
  have sz : h3.objs.size = hp.objs.size := by rw [c3.1, c2.1, c1.1]
  have el : e < hp.objs.size := Heap.lt_size a0
  have a4 : IsEnumHeld (h3.push { cls := .type "tuple", data := .seq #[.int i tk, x] }) e it ((i : Int) + 1) old T f := Heap.get?_push_of_some _ a3
  have t4 : (h3.push { cls := .type "tuple", data := .seq #[.int i tk, x] }).get? hp.objs.size = some { cls := .type "tuple", data := .seq #[.int i tk, x] } := by
    rw [← sz]
    exact Heap.get?_push_size _ rfl
  have z4 : (h3.push { cls := .type "tuple", data := .seq #[.int i tk, x] }).objs.size = hp.objs.size + 1 := by rw [Heap.size_push, sz]
  have k4 : ∀ b o, b ≠ e → b ≠ it → hp.get? b = some o → (h3.push { cls := .type "tuple", data := .seq #[.int i tk, x] }).get? b = some o := fun b o be bi hb =>
    Heap.get?_push_of_some _ (c3.extBut b o be (c2.extBut b o be (c1.extBut b o bi hb)))
  have i4 : (h3.push { cls := .type "tuple", data := .seq #[.int i tk, x] }).IsTupleIter it t (i + 1) := by
    obtain ⟨o, ho, r⟩ := (b1.extBut c2.extBut (Ne.symm ne)).extBut c3.extBut (Ne.symm ne)
    exact ⟨o, Heap.get?_push_of_some _ ho, r⟩
  generalize h3.push { cls := .type "tuple", data := .seq #[.int i tk, x] } = h4 at a4 t4 z4 k4 i4 ⊢
  show wpAny _ _ (Builtin.SmallTypes.ownedTupleIsFree (.ref e) >>= _) _ _ ⟨h4, gg, dd, tk + 1, os⟩
  rw [sz]
  refine wpAny_bind (wpAny_tupleHeld_enum (s := ⟨h4, gg, dd, tk + 1, os⟩) a4 (k4 T oT Te Ti aT) fun h5 a5 c5 => ?_)
  have c5 : Heap.SameBut e h4 h5 := c5
  simp only [Bool.false_eq_true, if_false]
  refine wpAny_pure ⟨_, rfl, k h5 a5 (i4.extBut c5.extBut (Ne.symm ne)) (c5.extBut _ _ (Nat.ne_of_gt el) t4) ?_ fun b o be bi hb => c5.extBut b o be (k4 b o be bi hb)⟩
  show h5.objs.size = hp.objs.size + 1
  rw [c5.1, z4]
theorem next_held {Q : Option Value → Shared → Prop} (a0 : IsEnumHeld s.heap e it i old T f) (aT : s.heap.get? T = some oT) (Te : T ≠ e) (Ti : T ≠ it) (b0 : s.heap.IsTupleIter it t i) (bt : s.heap.IsTuple t xs) (bx : xs[i]? = some x) (ne : e ≠ it)
    (k : ∀ h', IsEnumHeld h' e it ((i : Int) + 1) old T true → h'.IsTupleIter it t (i + 1) → h'.get? s.heap.objs.size = some { cls := .type "tuple", data := .seq #[.int i s.toks, x] } → h'.objs.size = s.heap.objs.size + 1 →
      (∀ b o, b ≠ e → b ≠ it → s.heap.get? b = some o → h'.get? b = some o) → Q (some (.ref s.heap.objs.size)) { s with heap := h', toks := s.toks + 1 }) :
    wpAny (model prog w) A (pyNext (.ref e)) Q E s := by
  have ty : s.TypeIs (.ref e) "enumerate" := ⟨_, a0, rfl⟩
  unfold pyNext
  refine wpAny_bind (wpAny_attempt (wpAny_callSpecial?_slot (name := Str.ofString "__next__") ty F.slot_enumerate_next ?_))
  refine wpAny_call_entry F.slot_enumerate_next ty F.entry_enumerate_next ?_ (F.args_enumerate_next_1 _)
  exact step_held a0 aT Te Ti b0 bt bx ne fun h' q1 q2 q3 q4 q5 => wpAny_pure (k h' q1 q2 q3 q4 q5)
theorem end_held {Q : Option Value → Shared → Prop} (hh : A.handled = none) (a0 : IsEnumHeld s.heap e it i old T f) (b0 : s.heap.IsTupleIter it t i) (bt : s.heap.IsTuple t xs) (bx : xs[i]? = none)
    (k : ∀ h', Heap.ExtBut it s.heap h' → Q none { s with heap := h' }) : wpAny (model prog w) A (pyNext (.ref e)) Q E s := by
  have ty : s.TypeIs (.ref e) "enumerate" := ⟨_, a0, rfl⟩
  unfold pyNext
  refine wpAny_bind (wpAny_attempt (wpAny_callSpecial?_slot (name := Str.ofString "__next__") ty F.slot_enumerate_next ?_))
  refine wpAny_call_entry F.slot_enumerate_next ty F.entry_enumerate_next ?_ (F.args_enumerate_next_1 _)
  show wpAny _ _ (field (.ref e) 2 >>= _) _ _ _
  refine wpAny_bind (wpAny_field a0 rfl (x := .ref it) rfl ?_)
  refine wpAny_bind (wpAny_nextOf_tuple_end hh b0 bt bx fun h' u ex cu => ?_)
  obtain ⟨o, ho, hc⟩ := cu
  refine wpAny_bind (wpAny_isInstance (T := "StopIteration") (b := true) ⟨o, ho, hc⟩ isSubtype_stop ?_)
  exact wpAny_pure (k _ ex)
theorem off1 {a b base : Nat} (l : a < base) (h : base ≤ b) : b ≠ a := Nat.ne_of_gt (Nat.lt_of_lt_of_le l h)
/-- where the walk stands -/
structure ES (h : Heap) (e it t : Addr) (xs : Array Value) (i : Nat) : Prop where
  hit : h.IsTupleIter it t i
  ht : h.IsTuple t xs
  he : (∃ old, IsEnum h e it i old) ∨ ∃ old T f oT, IsEnumHeld h e it i old T f ∧ h.get? T = some oT ∧ T ≠ e ∧ T ≠ it
theorem ES.frame {h h' : Heap} (w : ES h e it t xs i) (k : ∀ b o, h.get? b = some o → h'.get? b = some o) : ES h' e it t xs i := by
  obtain ⟨a, b, c⟩ := w
  refine ⟨a.at fun o x => k _ o x, b.at fun o x => k _ o x, ?_⟩
  rcases c with ⟨old, c⟩ | ⟨old, T, f, oT, c, d, r1, r2⟩
  · exact .inl ⟨old, k _ _ c⟩
  · exact .inr ⟨old, T, f, oT, k _ _ c, k _ _ d, r1, r2⟩
/-- the pairs handed out so far -/
structure Rw (h : Heap) (base : Nat) (xs : Array Value) (i : Nat) (acc : Array Value) (Ts : List Addr) : Prop where
  eq : acc.toList = Ts.map Value.ref
  len : Ts.length = i
  nd : Ts.Nodup
  ge : ∀ T ∈ Ts, base ≤ T
  at_ : ∀ j T, Ts[j]? = some T → ∃ tk x, xs[j]? = some x ∧ h.get? T = some { cls := .type "tuple", data := .seq #[.int (j : Nat) tk, x] }
theorem Rw.frame {h h' : Heap} {base : Nat} {acc : Array Value} {Ts : List Addr} (r : Rw h base xs i acc Ts) (k : ∀ b o, base ≤ b → h.get? b = some o → h'.get? b = some o) : Rw h' base xs i acc Ts :=
  ⟨r.eq, r.len, r.nd, r.ge, fun j T hT => by
    obtain ⟨tk, x, q1, q2⟩ := r.at_ j T hT
    exact ⟨tk, x, q1, k _ _ (r.ge T (List.mem_of_getElem? hT)) q2⟩⟩
theorem Rw.add {h h' : Heap} {base : Nat} {acc : Array Value} {Ts : List Addr} {tk : Tok} (r : Rw h base xs i acc Ts) (k : ∀ b o, base ≤ b → h.get? b = some o → h'.get? b = some o) (hb : base ≤ h.objs.size) (hx : xs[i]? = some x)
    (ht : h'.get? h.objs.size = some { cls := .type "tuple", data := .seq #[.int i tk, x] }) : Rw h' base xs (i + 1) (acc.push (.ref h.objs.size)) (Ts ++ [h.objs.size]) := by
  have q := r.frame k
  refine ⟨by rw [Array.toList_push, r.eq, List.map_append]; rfl, by rw [List.length_append, r.len]; rfl, ?_, fun T hT => ?_, fun j T hT => ?_⟩
  · refine List.nodup_append.mpr ⟨r.nd, by simp, fun a ha b hb2 => ?_⟩
    have eb : b = h.objs.size := by simpa using hb2
    obtain ⟨j, hj⟩ := List.getElem?_of_mem ha
    obtain ⟨tk, y, _, e2⟩ := r.at_ j a hj
    intro z
    rw [z, eb] at e2
    exact Nat.lt_irrefl _ (Heap.lt_size e2)
  · rcases List.mem_append.mp hT with hT | hT
    · exact r.ge T hT
    · have eb : T = h.objs.size := by simpa using hT
      rw [eb]
      exact hb
  · by_cases c : j < Ts.length
    · rw [List.getElem?_append_left c] at hT
      exact q.at_ j T hT
    · rw [List.getElem?_append_right (by omega)] at hT
      have ej : j - Ts.length = 0 := by
        cases w : j - Ts.length with
        | zero => rfl
        | succ n => rw [w] at hT; simp at hT
      rw [ej] at hT
      have eT : h.objs.size = T := Option.some.inj hT
      subst eT
      have e3 : j = i := by rw [← r.len]; omega
      subst e3
      exact ⟨tk, x, hx, ht⟩
/-- one turn of the walk -/
theorem turn {Q : Option Value → Shared → Prop} (hh : A.handled = none) (st : ES s.heap e it t xs i) (bx : xs[i]? = some x) (ne : e ≠ it) (te : t ≠ e) (tit : t ≠ it)
    (k : ∀ h' tk tk', ES h' e it t xs (i + 1) → h'.get? s.heap.objs.size = some { cls := .type "tuple", data := .seq #[.int i tk, x] } →
      (∀ b o, b ≠ e → b ≠ it → s.heap.get? b = some o → h'.get? b = some o) → Q (some (.ref s.heap.objs.size)) { s with heap := h', toks := tk' }) : wpAny (model prog w) A (pyNext (.ref e)) Q E s := by
  have ec : ((i + 1 : Nat) : Int) = (i : Int) + 1 := by omega
  have nit : s.heap.objs.size ≠ it := let ⟨_, y, _⟩ := st.hit; Nat.ne_of_gt (Heap.lt_size y)
  have i1 : i < xs.size := (Array.getElem?_eq_some_iff.mp bx).1
  rcases st.he with ⟨old, he⟩ | ⟨old, T, f, oT, he, hT, r1, r2⟩
  · have nse : s.heap.objs.size ≠ e := Nat.ne_of_gt (Heap.lt_size he)
    refine wpAny_pyNext_enum_itemD (Draws.tuple (A := A.in1) hh it t tit xs) he ⟨st.hit, st.ht⟩ i1 ne (by simp [ne, Ne.symm te]) fun y h' tk hy ho st' hT hsz hk => ?_
    have ey : y = x := by rw [hy] at bx; exact Option.some.inj bx
    subst ey
    exact k h' tk _ ⟨st'.1, st'.2, .inr ⟨_, s.heap.objs.size, false, _, by rw [ec]; exact ho, hT, nse, nit⟩⟩ hT hk
  · refine next_held he hT r1 r2 st.hit st.ht bx ne fun h' ho hit' hT' hsz hk => ?_
    exact k h' _ _ ⟨hit', st.ht.at fun o y => hk _ o te tit y, .inr ⟨old, T, true, oT, by rw [ec]; exact ho, hk _ _ r1 r2 hT, r1, r2⟩⟩ hT' hk
theorem last {Q : Option Value → Shared → Prop} (hh : A.handled = none) (st : ES s.heap e it t xs xs.size) (tit : t ≠ it) (k : ∀ h', Heap.ExtBut it s.heap h' → Q none { s with heap := h' }) : wpAny (model prog w) A (pyNext (.ref e)) Q E s := by
  have bx : xs[xs.size]? = none := Array.getElem?_eq_none (Nat.le_refl _)
  rcases st.he with ⟨old, he⟩ | ⟨old, T, f, oT, he, hT, r1, r2⟩
  · exact wpAny_pyNext_enum_endD (Draws.tuple (A := A.in1) hh it t tit xs) he ⟨st.hit, st.ht⟩ k
  · exact end_held hh he st.hit st.ht bx k
end
/-- the list S takes all pairs that are left -/
theorem fill {prog : Program} {w : World} {A : Around} {R : Result → Shared → Prop} {e it t S : Addr} {xs : Array Value} {res : Value} {base : Nat} (hh : A.handled = none) (ne : e ≠ it) (te : t ≠ e) (tit : t ≠ it) (Se : S ≠ e) (Sit : S ≠ it) (St : S ≠ t) (hl : xs.size ≤ sizeLine) (be : e < base) (bit : it < base) (bS : S < base) :
    ∀ (m i : Nat) (s : Shared) (acc : Array Value) (c : Nat) (Ts : List Addr), xs.size - i = m → i ≤ xs.size → base ≤ s.heap.objs.size → ES s.heap e it t xs i → s.heap.get? S = some { cls := .type "list", dict := none, data := .seq acc c, slots := #[] } → Rw s.heap base xs i acc Ts →
    (∀ h' tk acc' c' Ts', h'.get? S = some { cls := .type "list", dict := none, data := .seq acc' c', slots := #[] } → Rw h' base xs xs.size acc' Ts' → (∀ b o, b ≠ e → b ≠ it → b ≠ S → s.heap.get? b = some o → h'.get? b = some o) → R (.ok (.ret res)) { s with heap := h', toks := tk }) →
    codeAny (model prog w) A (.builtin "list.extend.loop" ⟨[.ref S, .ref e, res], []⟩) R s := by
  intro m
  induction m with
  | zero =>
    intro i s acc c Ts hm hi hb st hS rw hR
    have ei : i = xs.size := by omega
    subst ei
    refine codeAny_builtin F.entry_extend_loop ?_
    rw [Around.under_plainId F.plain_extend_loop _]
    show wpAny _ A.in1 (pyNext (.ref e) >>= _) _ _ s
    refine wpAny_bind (last (A := A.in1) hh st tit fun h' ex => ?_)
    refine wpAny_pure (hR h' s.toks acc c Ts (ex _ _ Sit hS) (rw.frame fun b o hb y => ex b o (off1 bit hb) y) fun b o _ b2 _ y => ex b o b2 y)
  | succ m ih =>
    intro i s acc c Ts hm hi hb st hS rw hR
    have i1 : i < xs.size := by omega
    refine codeAny_builtin F.entry_extend_loop ?_
    rw [Around.under_plainId F.plain_extend_loop _]
    show wpAny _ A.in1 (pyNext (.ref e) >>= _) _ _ s
    refine wpAny_bind (turn (A := A.in1) hh st (Array.getElem?_eq_getElem i1) ne te tit fun h' tk tk' st' hT hk => ?_)
    have hS' := hk S _ Se Sit hS
    have al : acc.size = i := by
      have z := congrArg List.length rw.eq
      rw [List.length_map, rw.len, Array.length_toList] at z
      exact z
    show wpAny _ A.in1 (updateSeq S (·.push (.ref s.heap.objs.size)) >>= _) _ _ _
    have off : ∀ b o, b ≠ S → h'.get? b = some o → (h'.update S (Obj.mapSeq (·.push (Value.ref s.heap.objs.size)))).get? b = some o := fun b o n y => (Heap.get?_update_other _ _ (Ne.symm n)).trans y
    have st2 : ES (h'.update S (Obj.mapSeq (·.push (Value.ref s.heap.objs.size)))) e it t xs (i + 1) := by
      obtain ⟨q1, q2, q3⟩ := st'
      refine ⟨q1.at fun o y => off _ o (Ne.symm Sit) y, q2.at fun o y => off _ o (Ne.symm St) y, ?_⟩
      rcases q3 with ⟨old, q3⟩ | ⟨old, T, f, oT, q3, q4, r1, r2⟩
      · exact .inl ⟨old, off _ _ (Ne.symm Se) q3⟩
      · by_cases cT : T = S
        · subst cT
          exact .inr ⟨old, T, f, _, off _ _ (Ne.symm Se) q3, Heap.get?_update_self _ hS' rfl, r1, r2⟩
        · exact .inr ⟨old, T, f, oT, off _ _ (Ne.symm Se) q3, off _ _ cT q4, r1, r2⟩
    have szl : s.heap.objs.size < h'.objs.size := Heap.lt_size hT
    refine wpAny_bind (wpAny_updateSeq hS' rfl (wpAny_pure ⟨plainId_quiet F.plain_extend_loop _, ih (i + 1) _ (acc.push (.ref s.heap.objs.size)) _ (Ts ++ [s.heap.objs.size]) (by omega) i1 (by show base ≤ (h'.update S _).objs.size; rw [Heap.size_update]; exact Nat.le_trans hb (Nat.le_of_lt szl)) st2 (Heap.get?_update_self _ hS' rfl)
      (rw.add (fun b o hb y => off b o (off1 bS hb) (hk b o (off1 be hb) (off1 bit hb) y)) hb (Array.getElem?_eq_getElem i1) (off _ _ (off1 bS hb) hT)) fun h2 tk2 acc' c' Ts' q1 q2 q3 => ?_⟩) (by rw [al]; omega) (by show (acc.push _).size ≤ sizeLine + 1; rw [Array.size_push, al]; omega))
    exact hR h2 tk2 acc' c' Ts' q1 q2 fun b o n1 n2 n3 y => q3 b o n1 n2 n3 (off b o n3 (hk b o n1 n2 y))
end EnT
end PySem

namespace PySem
open Sem (wp)
open AutoSeq1 (wpAny_loadPart')
namespace EnT
theorem noLen : typeLookup (.type "enumerate") "__len__" = pure none := by
  rw [typeLookup_type, builtinLookup_eq_fast]
  kernel_rfl
theorem noHint : typeLookup (.type "enumerate") "__length_hint__" = pure none := by
  rw [typeLookup_type, builtinLookup_eq_fast]
  kernel_rfl
section
variable {prog : Program} {w : World} {A : Around} {E : Value → Shared → Prop} {s : Shared} {R : Result → Shared → Prop} {e it t : Addr} {xs : Array Value}
theorem ES.ty {i : Nat} (st : ES s.heap e it t xs i) : s.TypeIs (.ref e) "enumerate" := by
  rcases st.he with ⟨old, he⟩ | ⟨old, T, f, oT, he, _⟩
  · exact ⟨_, he, rfl⟩
  · exact ⟨_, he, rfl⟩
theorem nil_rw {h : Heap} {base : Nat} : Rw h base xs 0 #[] [] := ⟨rfl, rfl, List.nodup_nil, fun T hT => (by cases hT), fun j T hT => (by simp at hT)⟩
theorem Rw.up {h : Heap} {b b' i : Nat} {acc : Array Value} {Ts : List Addr} (r : Rw h b xs i acc Ts) (l : b' ≤ b) : Rw h b' xs i acc Ts := ⟨r.eq, r.len, r.nd, fun T hT => Nat.le_trans l (r.ge T hT), r.at_⟩
theorem ext {S : Addr} {res : Value} {c0 base : Nat} (hh : A.handled = none) (st : ES s.heap e it t xs 0) (ne : e ≠ it) (te : t ≠ e) (tit : t ≠ it) (Se : S ≠ e) (Sit : S ≠ it) (St : S ≠ t) (hl : xs.size ≤ sizeLine) (be : e < base) (bit : it < base) (bS : S < base) (hb : base ≤ s.heap.objs.size)
    (hS : s.heap.get? S = some { cls := .type "list", data := .seq #[] c0 })
    (k : ∀ h' tk acc' c' Ts', h'.get? S = some { cls := .type "list", dict := none, data := .seq acc' c', slots := #[] } → Rw h' base xs xs.size acc' Ts' → (∀ b o, b ≠ e → b ≠ it → b ≠ S → s.heap.get? b = some o → h'.get? b = some o) → R (.ok (.ret res)) { s with heap := h', toks := tk }) :
    wpAny (model prog w) A.in1 (Builtin.List.listExtendWith (.ref S) (.ref e) res)
      (fun fin s' => match fin with | .done f => R (.ok f) s' | .again c' => c'.quiet = true ∧ codeAny (model prog w) A c' R s') (fun u s' => R (.error u) s') s := by
  have ty := st.ty
  unfold Builtin.List.listExtendWith
  refine wpAny_bind (wpAny_typeOf ty ?_)
  have q1 : Builtin.List.listSameRef (.ref S) (.ref e) = false := by simp [Builtin.List.listSameRef, Se]
  have q2 : (Value.type "enumerate" == Value.type "list") = false := by decide
  have q3 : (Value.type "enumerate" == Value.type "tuple") = false := by decide
  simp only [q1, q2, q3, Bool.or_false, Bool.false_eq_true, if_false]
  have self : ∀ (Q : Value → Shared → Prop) (E' : Value → Shared → Prop), Q (.ref e) s → wpAny (model prog w) A.in1 (pyIter (.ref e)) Q E' s := fun Q E' q => by
    rcases st.he with ⟨old, he⟩ | ⟨old, T, f, oT, he, _⟩
    · exact wpAny_pyIter_enum he q
    · refine wpAny_pyIter_slot ty F.slot_enumerate_iter (wpAny_call_entry F.slot_enumerate_iter ty F.entry_enumerate_iter ?_ (F.args_enumerate_iter_1 _))
      show wpAny _ _ (ret (.ref e)) _ _ s
      exact wpAny_pure ⟨_, rfl, "enumerate", _, ty, F.slot_enumerate_next.lookup, q⟩
  refine wpAny_bind (self _ _ ?_)
  refine wpAny_bind (wpAny_holding ?_)
  unfold Builtin.List.listLengthHint
  refine wpAny_bind (wpAny_specialOf ty noLen ?_)
  show wpAny _ A.in1 (specialOf (Value.ref e) (Str.ofString "__length_hint__") >>= _) _ _ _
  refine wpAny_bind (wpAny_specialOf ty noHint (wpAny_pure ?_))
  show wpAny _ A.in1 (rule "list.extend.makes-room" >>= fun _ => Builtin.List.listTouch (.ref S) >>= fun _ => again (.builtin "list.extend.loop" ⟨[.ref S, .ref e, res], []⟩)) _ _ _
  refine wpAny_bind (wpAny_rule (wpAny_bind ?_))
  show wpAny _ A.in1 (updateSeq S (·.push .none) >>= fun _ => updateSeq S (·.pop)) _ _ _
  refine wpAny_bind (wpAny_updateSeq hS rfl ?_)
  have hS2 := Heap.get?_update_self (Obj.mapSeq (·.push Value.none)) hS rfl
  refine wpAny_updateSeq (hz := by seq_fits) hS2 rfl ?_
  have hS3 := Heap.get?_update_self (Obj.mapSeq (·.pop)) hS2 rfl
  have off : ∀ b o, b ≠ S → s.heap.get? b = some o → ((s.heap.update S (Obj.mapSeq (·.push Value.none))).update S (Obj.mapSeq (·.pop))).get? b = some o :=
    fun b o n y => (Heap.get?_update_other _ _ (Ne.symm n)).trans ((Heap.get?_update_other _ _ (Ne.symm n)).trans y)
  have st2 : ES ((s.heap.update S (Obj.mapSeq (·.push Value.none))).update S (Obj.mapSeq (·.pop))) e it t xs 0 := by
    obtain ⟨z1, z2, z3⟩ := st
    refine ⟨z1.at fun o y => off _ o (Ne.symm Sit) y, z2.at fun o y => off _ o (Ne.symm St) y, ?_⟩
    rcases z3 with ⟨old, z3⟩ | ⟨old, T, f, oT, z3, z4, r1, r2⟩
    · exact .inl ⟨old, off _ _ (Ne.symm Se) z3⟩
    · by_cases cT : T = S
      · subst cT
        exact .inr ⟨old, T, f, _, off _ _ (Ne.symm Se) z3, hS3, r1, r2⟩
      · exact .inr ⟨old, T, f, oT, off _ _ (Ne.symm Se) z3, off _ _ cT z4, r1, r2⟩
  refine wpAny_pure ⟨plainId_quiet F.plain_extend_loop _, fill hh ne te tit Se Sit St hl be bit bS xs.size 0 _ _ _ [] rfl (Nat.zero_le _) ?_ st2 hS3 nil_rw fun h' tk acc' c' Ts' y1 y2 y3 => ?_⟩
  · show base ≤ ((s.heap.update S _).update S _).objs.size
    rw [Heap.size_update, Heap.size_update]
    exact hb
  · exact k h' tk acc' c' Ts' y1 y2 fun b o n1 n2 n3 y => y3 b o n1 n2 n3 (off b o n3 y)
theorem ES.lt {i : Nat} (st : ES s.heap e it t xs i) : e < s.heap.objs.size ∧ it < s.heap.objs.size ∧ t < s.heap.objs.size := by
  refine ⟨?_, ?_, ?_⟩
  · rcases st.he with ⟨old, he⟩ | ⟨old, T, f, oT, he, _⟩
    · exact Heap.lt_size he
    · exact Heap.lt_size he
  · obtain ⟨o, ho, _⟩ := st.hit
    exact Heap.lt_size ho
  · obtain ⟨o, ho, _⟩ := st.ht
    exact Heap.lt_size ho
theorem col {Q : List Value → Shared → Prop} (hh : A.handled = none) (st : ES s.heap e it t xs 0) (ne : e ≠ it) (te : t ≠ e) (tit : t ≠ it) (hl : xs.size ≤ sizeLine)
    (k : ∀ h' tk acc Ts, Rw h' s.heap.objs.size xs xs.size acc Ts → (∀ b o, b ≠ e → b ≠ it → s.heap.get? b = some o → h'.get? b = some o) → Q acc.toList { s with heap := h', toks := tk }) : wpAny (model prog w) A (collect (.ref e)) Q E s := by
  obtain ⟨l1, l2, l3⟩ := st.lt
  unfold collect
  refine wpAny_bind (wpAny_runValue (codeAny_builtin F.entry_proto_collect ?_))
  rw [Around.under_plainId F.plain_proto_collect _]
  show wpAny _ A.in1 (newList [] >>= fun l => again (.builtin "list.__iadd__" ⟨[l, .ref e], []⟩)) _ _ s
  refine wpAny_bind (wpAny_newObj_type (wpAny_pure ⟨plainId_quiet F.plain_list_iadd _, codeAny_builtin F.entry_list_iadd ?_⟩))
  rw [Around.under_plainId F.plain_list_iadd _]
  have old : ∀ b o, s.heap.get? b = some o → (s.heap.push { cls := .type "list", data := .seq ([] : List Value).toArray }).get? b = some o := fun b o y => Heap.get?_push_of_some _ y
  show wpAny _ A.in1 (Builtin.List.listExtendWith (.ref s.heap.objs.size) (.ref e) (.ref s.heap.objs.size)) _ _ _
  have main : ∀ s', (∃ h' tk acc Ts c', s' = { s with heap := h', toks := tk } ∧ h'.get? s.heap.objs.size = some { cls := .type "list", dict := none, data := .seq acc c', slots := #[] } ∧ Rw h' s.heap.objs.size xs xs.size acc Ts ∧ ∀ b o, b ≠ e → b ≠ it → s.heap.get? b = some o → h'.get? b = some o) →
      wpAny (model prog w) A (load s.heap.objs.size >>= fun o => match o.data with | .seq ys _ => pure ys.toList | _ => unsupported "internal:collect") Q E s' := by
    rintro s' ⟨h', tk, acc, Ts, c', rfl, y1, y2, y3⟩
    exact wpAny_bind (wpAny_load y1 (wpAny_pure (k h' tk acc Ts y2 y3)))
  refine wpAny_mono (ext (R := fun r s' => r = .ok (.ret (.ref s.heap.objs.size)) ∧ ∃ h' tk acc Ts c', s' = { s with heap := h', toks := tk } ∧ h'.get? s.heap.objs.size = some { cls := .type "list", dict := none, data := .seq acc c', slots := #[] } ∧ Rw h' s.heap.objs.size xs xs.size acc Ts ∧ ∀ b o, b ≠ e → b ≠ it → s.heap.get? b = some o → h'.get? b = some o)
    (s := { s with heap := s.heap.push { cls := .type "list", data := .seq ([] : List Value).toArray } }) (base := s.heap.objs.size + 1) (c0 := 0) hh (st.frame old) ne te tit (Nat.ne_of_gt l1) (Nat.ne_of_gt l2) (Nat.ne_of_gt l3) hl (Nat.lt_succ_of_lt l1) (Nat.lt_succ_of_lt l2) (Nat.lt_succ_self _) (by show _ ≤ (s.heap.push _).objs.size; rw [Heap.size_push]; exact Nat.le_refl _) (Heap.get?_push_size _ rfl)
    fun h' tk acc' c' Ts' y1 y2 y3 => ⟨rfl, h', tk, acc', Ts', c', rfl, y1, y2.up (Nat.le_succ _), fun b o n1 n2 y => y3 b o n1 n2 (Nat.ne_of_lt (Heap.lt_size y)) (old b o y)⟩) (fun fin s' q => ?_) fun u s' q => by cases q.1
  cases fin with
  | done f =>
    obtain ⟨ef, q⟩ := q
    cases ef
    exact main s' q
  | again c' =>
    refine ⟨q.1, codeAny_mono q.2 fun r s2 z => ?_⟩
    obtain ⟨rfl, z⟩ := z
    exact main s2 z
theorem new_tup {Q1 : Value → Shared → Prop} (hh : A.handled = none) (st : ES s.heap e it t xs 0) (ne : e ≠ it) (te : t ≠ e) (tit : t ≠ it) (hl : xs.size ≤ sizeLine)
    (k : ∀ h' tk acc Ts, Rw h' s.heap.objs.size xs xs.size acc Ts → (∀ b o, b ≠ e → b ≠ it → s.heap.get? b = some o → h'.get? b = some o) → Q1 (.ref h'.objs.size) { s with heap := h'.push { cls := .type "tuple", data := .seq acc }, toks := tk }) :
    codeAny (model prog w) A (.call (.builtin "tuple.__new__") ⟨[.type "tuple", .ref e], []⟩) (wants Q1 E) s := by
  refine codeAny_of_tree ?_
  show wpAny _ A.in1 (do checkBuiltinCall "tuple.__new__" ⟨[.type "tuple", .ref e], []⟩; again (.builtin "tuple.__new__" ⟨[.type "tuple", .ref e], []⟩)) _ _ s
  refine wpAny_bind (wpAny_of_eq (F.newCall_tuple_1 _) (wpAny_pure ⟨plainId_quiet F.plain_tuple_new _, codeAny_builtin F.entry_tuple_new ?_⟩))
  rw [Around.under_plainId F.plain_tuple_new _]
  have g1 := sub_tuple_self
  have g2 := init_tuple_lookup
  have g3 := madeHere_tuple
  have ty := st.ty
  have hh1 : A.in1.handled = none := hh
  wp_walk using wpAny_typeOf ty, col (A := A.in1) hh1 st ne te tit hl
  intro h' tk acc Ts rw hk
  have al : acc.size = xs.size := by
    have z := congrArg List.length rw.eq
    rw [List.length_map, rw.len, Array.length_toList] at z
    exact z
  show wpAny _ _ (Builtin.Tuple.tupleExact acc.toList.toArray >>= fun v => ret v) _ _ _
  unfold Builtin.Tuple.tupleExact
  refine wpAny_bind (wpAny_newObj_type (wpAny_pure ?_) (by show acc.toList.toArray.size ≤ sizeLine; simp only [Array.toArray_toList]; rw [al]; exact hl))
  have ea : acc.toList.toArray = acc := by simp
  rw [ea]
  exact k h' tk acc Ts rw hk
theorem call_tup {Q : Value → Shared → Prop} (hh : A.handled = none) (st : ES s.heap e it t xs 0) (ne : e ≠ it) (te : t ≠ e) (tit : t ≠ it) (hl : xs.size ≤ sizeLine)
    (k : ∀ h' tk acc Ts, Rw h' s.heap.objs.size xs xs.size acc Ts → (∀ b o, b ≠ e → b ≠ it → s.heap.get? b = some o → h'.get? b = some o) → Q (.ref h'.objs.size) { s with heap := h'.push { cls := .type "tuple", data := .seq acc }, toks := tk }) :
    wpAny (model prog w) A (call (.type "tuple") [.ref e]) Q E s := by
  refine callType_codes (Q₁ := fun obj s₁ => s₁.TypeIs obj "tuple" ∧ Q obj s₁) F.called_tuple (F.typeCall_tuple_1 _) F.entry_object_init ?_ fun obj s₁ q => ?_
  · exact new_tup (A := A.in1) hh st ne te tit hl fun h' tk acc Ts rw hk => ⟨⟨_, Heap.get?_push_size _ rfl, rfl⟩, k h' tk acc Ts rw hk⟩
  · exact ⟨q.1, F.args_object_init_2 obj _, object_init_meets F.called_tuple.init.lookup F.called_tuple.made (by decide) prog w A.in1 _ s₁ ⟨q.1, rfl, q.2⟩⟩
theorem call_lst {Q : Value → Shared → Prop} (hh : A.handled = none) (st : ES s.heap e it t xs 0) (ne : e ≠ it) (te : t ≠ e) (tit : t ≠ it) (hl : xs.size ≤ sizeLine)
    (k : ∀ h' tk acc c' Ts, h'.get? s.heap.objs.size = some { cls := .type "list", dict := none, data := .seq acc c', slots := #[] } → Rw h' (s.heap.objs.size + 1) xs xs.size acc Ts → (∀ b o, b ≠ e → b ≠ it → s.heap.get? b = some o → h'.get? b = some o) → Q (.ref s.heap.objs.size) { s with heap := h', toks := tk }) :
    wpAny (model prog w) A (call (.type "list") [.ref e]) Q E s := by
  obtain ⟨l1, l2, l3⟩ := st.lt
  refine callType_codes (Q₁ := fun obj s₁ => obj = .ref s.heap.objs.size ∧ s₁ = { s with heap := s.heap.push { cls := .type "list", data := .seq #[] } }) F.called_list (F.typeCall_list_1 _) F.entry_list_init (code_list_new _ ⟨rfl, rfl⟩) fun obj s₁ q => ?_
  obtain ⟨rfl, rfl⟩ := q
  have old : ∀ b o, s.heap.get? b = some o → (s.heap.push { cls := .type "list", data := .seq #[] }).get? b = some o := fun b o y => Heap.get?_push_of_some _ y
  have hS : (s.heap.push { cls := .type "list", data := .seq #[] }).get? s.heap.objs.size = some { cls := .type "list", data := .seq #[] } := Heap.get?_push_size _ rfl
  refine ⟨⟨_, hS, rfl⟩, F.args_list_init_2 _ _, ?_⟩
  show wpAny _ _ (do let old ← Builtin.List.listItems (.ref s.heap.objs.size); Builtin.List.listUpdate (.ref s.heap.objs.size) (fun _ => #[]); letGo old.toList.reverse; Builtin.List.listExtendWith (.ref s.heap.objs.size) (.ref e) .none) _ _ _
  refine wpAny_bind ?_
  unfold Builtin.List.listItems
  refine wpAny_bind (wpAny_seqItems hS rfl (wpAny_pure ?_))
  show wpAny _ _ (updateSeq s.heap.objs.size (fun _ => #[]) >>= fun _ => letGo (#[] : Array Value).toList.reverse >>= fun _ => Builtin.List.listExtendWith (.ref s.heap.objs.size) (.ref e) .none) _ _ _
  refine wpAny_bind (wpAny_updateSeq hS rfl ?_)
  have hS2 := Heap.get?_update_self (Obj.mapSeq (fun _ => (#[] : Array Value))) hS rfl
  have off : ∀ b o, s.heap.get? b = some o → ((s.heap.push { cls := .type "list", data := .seq #[] }).update s.heap.objs.size (Obj.mapSeq (fun _ => (#[] : Array Value)))).get? b = some o := fun b o y =>
    (Heap.get?_update_other _ _ (Ne.symm (Nat.ne_of_lt (Heap.lt_size y)))).trans (old b o y)
  refine wpAny_bind (wpAny_letGo ?_)
  refine ext (A := A.in1) (s := { s with heap := (s.heap.push { cls := .type "list", data := .seq #[] }).update s.heap.objs.size (Obj.mapSeq (fun _ => (#[] : Array Value))) }) (base := s.heap.objs.size + 1) hh (st.frame off) ne te tit (Nat.ne_of_gt l1) (Nat.ne_of_gt l2) (Nat.ne_of_gt l3) hl (Nat.lt_succ_of_lt l1) (Nat.lt_succ_of_lt l2) (Nat.lt_succ_self _)
    (by show _ ≤ ((s.heap.push _).update _ _).objs.size; rw [Heap.size_update, Heap.size_push]; exact Nat.le_refl _) hS2 fun h' tk acc' c' Ts' y1 y2 y3 => ?_
  exact ⟨rfl, k h' tk acc' c' Ts' y1 y2 fun b o n1 n2 y => y3 b o n1 n2 (Nat.ne_of_lt (Heap.lt_size y)) (off b o y)⟩
end
end EnT
end PySem

namespace PySem
open Sem (wp)
open AutoSeq1 (wpAny_loadPart')
namespace EnT
theorem new1 {v : Value} {o : Obj} {H : Heap → Prop} (B : Begins v o H) :
    Meets (Builtin.«enumerate.__new__» ⟨[.type "enumerate", v], []⟩) (fun _ R s => H s.heap ∧
      R (.ok (.ret (.ref (s.heap.push o).objs.size))) { s with heap := (s.heap.push o).push { cls := .type "enumerate", data := .fields #[.none, .bool false, .ref s.heap.objs.size, rawInt 0, .none, .none] } }) :=
  .of_wp fun prog w A R s h => by
    obtain ⟨hp, g, d, tk, os⟩ := s
    obtain ⟨q0, h⟩ := h
    have g1 := sub_enumerate
    have q1 : ∀ {A' : Around} {E : Value → Shared → Prop} {Q : Value → Shared → Prop}, Q (.ref hp.objs.size) ⟨hp.push o, g, d, tk, os⟩ → wpAny (model prog w) A' (pyIter v) Q E ⟨hp, g, d, tk, os⟩ :=
      fun q => B.iter prog w _ _ ⟨hp, g, d, tk, os⟩ _ q0 q
    wp_walk using q1
    refine wpAny_stack_any fun st => wpAny_pure ?_
    split
    · rename_i c _ _ _ _ _
      cases (c == Value.type "enumerate")
      · wp_walk using q1
        exact ⟨_, rfl, h⟩
      · wp_walk using q1
        exact ⟨_, rfl, h⟩
    · wp_walk using q1
      exact ⟨_, rfl, h⟩
theorem call_en {prog : Program} {w : World} {A : Around} {E : Value → Shared → Prop} {s : Shared} {t : Addr} {xs : Array Value} {Q : Value → Shared → Prop} (bt : s.heap.IsTuple t xs)
    (k : ∀ h', ES h' (s.heap.objs.size + 1) s.heap.objs.size t xs 0 → (∀ b o, s.heap.get? b = some o → h'.get? b = some o) → Q (.ref (s.heap.objs.size + 1)) { s with heap := h' }) :
    wpAny (model prog w) A (call (.type "enumerate") [.ref t]) Q E s := by
  refine callType_new F.called_enumerate (by decide) (F.typeCall_enumerate_1 _) (F.newCall_enumerate_1 _) (fun obj => F.args_object_init_2 obj _) F.entry_enumerate_new (new1 (begins_tuple t xs)) ⟨bt, ?_⟩
  have z : (s.heap.push { cls := .type "tuple_iterator", data := .fields #[.ref t, .int 0 0] }).objs.size = s.heap.objs.size + 1 := Heap.size_push ..
  show _ ∧ _
  rw [z]
  have he : IsEnum ((s.heap.push { cls := .type "tuple_iterator", data := .fields #[.ref t, .int 0 0] }).push { cls := .type "enumerate", data := .fields #[.none, .bool false, .ref s.heap.objs.size, rawInt 0, .none, .none] }) (s.heap.objs.size + 1) s.heap.objs.size (0 : Nat) .none := by
    have q := Heap.get?_push_size (s.heap.push { cls := .type "tuple_iterator", data := .fields #[.ref t, .int 0 0] }) (o := { cls := .type "enumerate", data := .fields #[.none, .bool false, .ref s.heap.objs.size, rawInt 0, .none, .none] }) rfl
    rw [z] at q
    exact q
  have old : ∀ b o, s.heap.get? b = some o → ((s.heap.push { cls := .type "tuple_iterator", data := .fields #[.ref t, .int 0 0] }).push { cls := .type "enumerate", data := .fields #[.none, .bool false, .ref s.heap.objs.size, rawInt 0, .none, .none] }).get? b = some o := fun b o y => Heap.get?_push_of_some _ (Heap.get?_push_of_some _ y)
  exact ⟨⟨_, he, rfl⟩, k _ ⟨⟨_, Heap.get?_push_of_some _ (Heap.get?_push_size _ rfl), rfl, rfl⟩, bt.at fun o y => old _ o y, .inl ⟨_, he⟩⟩ old⟩
end EnT
end PySem
namespace Ph
open PySem PySem.Spec PyProof.Rows L2
/-! ### tuples that stand already are tracked -/
def lay (H : Hp) : List (Addr × List V) → Hp
  | [] => H
  | (a, xs) :: L => upd (lay H L) a (.tup xs)
theorem lay_off {H : Hp} {a : Addr} : ∀ {L : List (Addr × List V)}, a ∉ L.map (·.1) → lay H L a = H a
  | [], _ => rfl
  | (b, xs) :: L, h => by
    have h1 : a ≠ b := fun z => h (by rw [z]; exact List.mem_cons_self)
    show upd (lay H L) b _ a = _
    rw [upd_ne h1]
    exact lay_off fun m => h (List.mem_cons_of_mem _ m)
theorem lay_in {H : Hp} {a : Addr} {xs : List V} : ∀ {L : List (Addr × List V)}, (L.map (·.1)).Nodup → (a, xs) ∈ L → lay H L a = some (.tup xs)
  | (b, ys) :: L, nd, h => by
    rcases List.mem_cons.mp h with e | m
    · cases e
      exact upd_same
    · have n : a ≠ b := fun z => (List.nodup_cons.mp nd).1 (by rw [← z]; exact List.mem_map.mpr ⟨_, m, rfl⟩)
      show upd (lay H L) b _ a = _
      rw [upd_ne n]
      exact lay_in (List.nodup_cons.mp nd).2 m
section
variable {X : Cx} {pins : List (Addr × Obj)} {σ : L2.St} {H : Hp} {s : Shared}
theorem adopt (I : L2.Inv X pins σ H s) {tk : Nat} : ∀ (L : List (Addr × List V)) (h' : Heap), (∀ b o, s.heap.get? b = some o → h'.get? b = some o) → (L.map (·.1)).Nodup → (∀ q ∈ L, s.heap.objs.size ≤ q.1) →
    (∀ q ∈ L, q.2.length ≤ sizeLine ∧ ∃ its : List Value, Vals q.2 its ∧ IsTup h' q.1 its.toArray) → L2.Inv X pins σ (lay H L) { s with heap := h', toks := tk }
  | [], h', k, _, _, _ => I.kept k
  | (a, xs) :: L, h', k, nd, ge, ok => by
    obtain ⟨G, g1, g2⟩ := restrict h' fun b => decide (b ≠ a)
    have gk : ∀ b, b ≠ a → G.get? b = h'.get? b := fun b n => g1 b (decide_eq_true n)
    have ga : G.get? a = none := g2 a (by simp)
    have na := (List.nodup_cons.mp nd).1
    have gea := ge _ List.mem_cons_self
    have J := adopt I (tk := tk) L G (fun b o y => by
      rw [gk b (fun z => by rw [z] at y; exact Nat.lt_irrefl _ (Nat.lt_of_lt_of_le (Heap.lt_size y) gea))]
      exact k b o y) (List.nodup_cons.mp nd).2 (fun q m => ge q (List.mem_cons_of_mem _ m)) (fun q m => by
      obtain ⟨l, its, r, o, e, r2⟩ := ok q (List.mem_cons_of_mem _ m)
      have n : q.1 ≠ a := fun z => na (by rw [← z]; exact List.mem_map.mpr ⟨_, m, rfl⟩)
      exact ⟨l, its, r, o, (gk _ n).trans e, r2⟩)
    obtain ⟨l, its, r, p⟩ := ok _ List.mem_cons_self
    have z := Inv.laidN (h' := h') (a := a) (o := .tup xs) (t' := tk) J (fun b u y => by
      have n : b ≠ a := fun z => by
        have y2 : G.get? b = some u := y
        rw [z, ga] at y2
        cases y2
      exact (gk b n).symm.trans y) ga (by rw [lay_off na]; exact I.hok.fresh gea) ⟨l, its, r, p⟩
    exact z
end
end Ph

namespace Ph
open PySem PySem.Spec PyProof.Rows L2
/-- the pairs (j, xs[j]), laid at qs, in a list or tuple at p -/
def tEn (K : PySem.W.Frag) (wrap : List V → HO) (te : TE) : TE := fun σ H Q => te σ H fun x H1 => ∃ a xs, x = .ref a ∧ SqT K H1 a xs ∧ xs.length ≤ 1000000 ∧
  ∀ (qs : List Addr) (p : Addr) (H2 : Hp), qs.length = xs.length → Ex H1 H2 → (∀ j q v, qs[j]? = some q → xs[j]? = some v → H2 q = some (.tup [.int (j : Nat), v])) → H1 p = none → H2 p = some (wrap (qs.map V.ref)) → Q (.ref p) H2
theorem vals_at : ∀ {xs : List V} {us : List Value} {j : Nat} {x : V} {u : Value}, Vals xs us → xs[j]? = some x → us[j]? = some u → RelV x u
  | _, _, j, x, u, .nil, h, _ => by simp at h
  | _, _, 0, x, u, .cons r t, h, h2 => by
    cases Option.some.inj h
    cases Option.some.inj h2
    exact r
  | _, _, j + 1, x, u, .cons r t, h, h2 => vals_at (j := j) t (by simpa using h) (by simpa using h2)
theorem vals_refs : ∀ qs : List Addr, Vals (qs.map V.ref) (qs.map Value.ref)
  | [] => .nil
  | q :: qs => .cons rfl (vals_refs qs)
section
variable {X : Cx} {e : Expr} {te : TE}
/-- an enumerate object, fresh, over the tuple at a -/
def PEn (X : Cx) (e : Expr) (te : TE) : Prop := ∀ (pins : List (Addr × Obj)) (s : Shared) (σ : L2.St) (H : Hp) (Q : Addr → List V → Hp → Prop), L2.Inv X pins σ H s →
  te σ H (fun x H1 => ∃ a xs, x = .ref a ∧ SqT X.K H1 a xs ∧ Q a xs H1) →
  wpAny (model X.prog X.w) X.A (eval e X.env) (fun u s' => ∃ (sB : Shared) (H1 : Hp) (a : Addr) (xs : List V) (its : List Value), u = .ref (sB.heap.objs.size + 1) ∧ L2.Inv X pins σ H1 sB ∧ s' = { sB with heap := s'.heap } ∧ PySem.EnT.ES s'.heap (sB.heap.objs.size + 1) sB.heap.objs.size a its.toArray 0 ∧ a < sB.heap.objs.size ∧
    (∀ b o, sB.heap.get? b = some o → s'.heap.get? b = some o) ∧ Vals xs its ∧ Q a xs H1) X.xe s
theorem pen {p pos : Pos} (hg : Gl X "enumerate") (hm : X.mg "enumerate" = none) (ha : PE X e te) (na : starEach [e] X.env = (false, eval e X.env) :: starEach [] X.env := by rfl) : PEn X (.Call (.Name "enumerate" p) [e] [] pos) te := by
  intro pins s σ H Q I h
  refine Call_ (ld_blt I hg hm PyProof.Rows.Boot.«enumerate» (PyProof.Rows.callWith_type1 (one_arg ha I h (fun v s2 x H2 I2 r q => ?_) na) na))
  obtain ⟨a, xs, rfl, hS, q⟩ := q
  obtain rfl : v = .ref a := r
  obtain ⟨its, rv, ⟨o, ho, hc, n, hd⟩, hz⟩ := I2.tuple hS
  exact PySem.EnT.call_en (xs := its.toArray) ⟨o, ho, hc, n, hd⟩ fun h' st k => ⟨s2, H2, a, xs, its, rfl, I2, rfl, st, Heap.lt_size ho, k, rv, q⟩
/-- what the walk leaves, tracked -/
theorem en_done {pins : List (Addr × Obj)} {σ : L2.St} {H : Hp} {sB : Shared} {h' : Heap} {xs : List V} {its : List Value} {acc : Array Value} {Ts : List Addr} {base : Nat} {tk : Nat} (I : L2.Inv X pins σ H sB) (k : ∀ b o, sB.heap.get? b = some o → h'.get? b = some o) (rv : Vals xs its) (lb : sB.heap.objs.size ≤ base)
    (rw : PySem.EnT.Rw h' base its.toArray its.toArray.size acc Ts) : ∃ L : List (Addr × List V), L2.Inv X pins σ (lay H L) { sB with heap := h', toks := tk } ∧ Ts.length = xs.length ∧ L.map (·.1) = Ts ∧ ∀ j q v, Ts[j]? = some q → xs[j]? = some v → lay H L q = some (.tup [.int (j : Nat), v]) := by
  have lx : xs.length = its.length := rv.length
  have lt : Ts.length = xs.length := by rw [rw.len, List.size_toArray, lx]
  have fst : ∀ (n : Nat) (Ts : List Addr), (Ts.mapIdx fun j T => (T, [V.int ((j + n : Nat) : Int), xs.getD (j + n) .non])).map (·.1) = Ts := by
    intro n Ts
    induction Ts generalizing n with
    | nil => rfl
    | cons T Ts ih =>
      rw [List.mapIdx_cons, List.map_cons]
      have z := ih (n + 1)
      have e : (fun (i : Nat) T => (T, [V.int ((i + 1 + n : Nat) : Int), xs.getD (i + 1 + n) .non])) = fun (j : Nat) (T : Addr) => (T, [V.int ((j + (n + 1) : Nat) : Int), xs.getD (j + (n + 1)) .non]) := by
        funext i T
        rw [show i + 1 + n = i + (n + 1) by omega]
      rw [e, z]
  have f0 := fst 0 Ts
  let L : List (Addr × List V) := Ts.mapIdx fun j T => (T, [V.int ((j + 0 : Nat) : Int), xs.getD (j + 0) .non])
  have hL : L.map (·.1) = Ts := f0
  have nd : (L.map (·.1)).Nodup := by rw [hL]; exact rw.nd
  have mem : ∀ q ∈ L, ∃ j, Ts[j]? = some q.1 ∧ q.2 = [V.int (j : Nat), xs.getD j .non] := fun q hq => by
    obtain ⟨j, hj⟩ := List.getElem?_of_mem hq
    have hj : (Ts.mapIdx fun j T => (T, [V.int ((j + 0 : Nat) : Int), xs.getD (j + 0) .non]))[j]? = some q := hj
    rw [List.getElem?_mapIdx] at hj
    cases z : Ts[j]? with
    | none => rw [z] at hj; cases hj
    | some T =>
      rw [z] at hj
      have e := Option.some.inj hj
      rw [← e]
      exact ⟨j, z, rfl⟩
  refine ⟨L, adopt I L h' k nd (fun q hq => ?_) (fun q hq => ?_), lt, hL, fun j q v h1 h2 => ?_⟩
  · obtain ⟨j, h1, _⟩ := mem q hq
    exact Nat.le_trans lb (rw.ge _ (List.mem_of_getElem? h1))
  · obtain ⟨j, h1, h2⟩ := mem q hq
    obtain ⟨tk', x, hx, ht⟩ := rw.at_ j q.1 h1
    rw [h2]
    refine ⟨by show 2 ≤ sizeLine; decide, [.int (j : Nat) tk', x], .cons ⟨tk', rfl⟩ (.cons ?_ .nil), ⟨_, ht, rfl, 0, rfl⟩⟩
    have jl : j < xs.length := by
      have := (List.getElem?_eq_some_iff.mp h1).1
      omega
    have hx2 : its[j]? = some x := by
      rw [← hx]
      simp
    rw [List.getD_eq_getElem?_getD, List.getElem?_eq_getElem jl]
    exact vals_at rv (List.getElem?_eq_getElem jl) hx2
  · refine lay_in nd ?_
    have hm : (Ts.mapIdx fun j T => (T, [V.int ((j + 0 : Nat) : Int), xs.getD (j + 0) .non]))[j]? = some (q, [V.int ((j + 0 : Nat) : Int), xs.getD (j + 0) .non]) := by
      rw [List.getElem?_mapIdx, h1]
      rfl
    have e : xs.getD (j + 0) .non = v := by
      rw [Nat.add_zero, List.getD_eq_getElem?_getD, h2]
      rfl
    rw [e] at hm
    exact List.mem_of_getElem? hm
theorem lay_ex {pins : List (Addr × Obj)} {σ : L2.St} {H : Hp} {sB : Shared} {L : List (Addr × List V)} (I : L2.Inv X pins σ H sB) (ge : ∀ a ∈ L.map (·.1), sB.heap.objs.size ≤ a) : Ex H (lay H L) := fun a x h => by
  rw [lay_off fun m => ?_]
  · exact h
  · rw [I.hok.fresh (ge a m)] at h
    cases h
theorem en_keep {sB : Shared} {h1 h' : Heap} (k : ∀ b o, sB.heap.get? b = some o → h1.get? b = some o) (hk : ∀ b o, b ≠ sB.heap.objs.size + 1 → b ≠ sB.heap.objs.size → h1.get? b = some o → h'.get? b = some o) : ∀ b o, sB.heap.get? b = some o → h'.get? b = some o := fun b o y =>
  hk b o (Nat.ne_of_lt (Nat.lt_succ_of_lt (Heap.lt_size y))) (Nat.ne_of_lt (Heap.lt_size y)) (k b o y)
theorem pe_enTup {p pos : Pos} (hc : X.calm = true) (hg : Gl X "tuple") (hm : X.mg "tuple" = none) (he : PEn X e te) (na : starEach [e] X.env = (false, eval e X.env) :: starEach [] X.env := by rfl) : PE X (.Call (.Name "tuple" p) [e] [] pos) (tEn X.K .tup te) := by
  refine ⟨fun pins s σ H Q I h => ?_⟩
  refine Call_ (ld_blt I hg hm boot_tuple (PyProof.Rows.callWith_type1 (args_cons (thn (he pins s σ H (fun a xs H1 => xs.length ≤ 1000000 ∧ ∀ (qs : List Addr) (p : Addr) (H2 : Hp), qs.length = xs.length → Ex H1 H2 → (∀ j q v, qs[j]? = some q → xs[j]? = some v → H2 q = some (.tup [.int (j : Nat), v])) → H1 p = none → H2 p = some (.tup (qs.map V.ref)) → Q (.ref p) H2) I h) fun u s1 hh => args_nil ?_) na) na))
  obtain ⟨sB, H1, a, xs, its, rfl, I1, es, st, al, k, rv, hl, q⟩ := hh
  obtain ⟨h1, e1⟩ : ∃ h1, s1.heap = h1 := ⟨_, rfl⟩
  rw [e1] at es st k
  subst es
  have lx : xs.length = its.length := rv.length
  refine PySem.EnT.call_tup (s := { sB with heap := h1 }) (I1.ok.hd hc) st (Nat.succ_ne_self _) (Nat.ne_of_lt (Nat.lt_succ_of_lt al)) (Nat.ne_of_lt al) (by rw [List.size_toArray, ← lx, sizeLine_eq]; omega) fun h' tk acc Ts rw hk => ?_
  have kk := en_keep k hk
  obtain ⟨L, I3, lt, hL, hq⟩ := en_done (tk := tk) I1 kk rv (Nat.le_of_lt st.lt.2.1) rw
  have ge : ∀ a ∈ L.map (·.1), sB.heap.objs.size ≤ a := fun a m => by
    rw [hL] at m
    exact Nat.le_trans (Nat.le_of_lt st.lt.2.1) (rw.ge a m)
  have fr : lay H1 L h'.objs.size = none := I3.hok.fresh (Nat.le_refl _)
  have e0 := lay_ex I1 ge
  have I4 := I3.laid (h' := h'.push { cls := .type "tuple", data := .seq acc }) (t' := tk) (a := h'.objs.size) (o := .tup (Ts.map V.ref)) (fun b o y => Heap.get?_push_of_some _ y) (Nat.le_refl _) (by
    refine ⟨by rw [List.length_map, lt, sizeLine_eq]; omega, acc.toList, by rw [rw.eq]; exact vals_refs Ts, ?_⟩
    rw [Array.toArray_toList]
    exact IsTup.new _ _)
  exact ⟨.ref h'.objs.size, _, I4, rfl, q Ts h'.objs.size _ lt (e0.trans (ex_new fr)) (fun j t v y1 y2 => (upd_ne (ne_of_none (hq j t v y1 y2) fr)).trans (hq j t v y1 y2)) (e0.free fr) upd_same⟩
theorem pe_enLst {p pos : Pos} (hc : X.calm = true) (hg : Gl X "list") (hm : X.mg "list" = none) (he : PEn X e te) (na : starEach [e] X.env = (false, eval e X.env) :: starEach [] X.env := by rfl) : PE X (.Call (.Name "list" p) [e] [] pos) (tEn X.K .lst te) := by
  refine ⟨fun pins s σ H Q I h => ?_⟩
  refine Call_ (ld_blt I hg hm boot_list (PyProof.Rows.callWith_type1 (args_cons (thn (he pins s σ H (fun a xs H1 => xs.length ≤ 1000000 ∧ ∀ (qs : List Addr) (p : Addr) (H2 : Hp), qs.length = xs.length → Ex H1 H2 → (∀ j q v, qs[j]? = some q → xs[j]? = some v → H2 q = some (.tup [.int (j : Nat), v])) → H1 p = none → H2 p = some (.lst (qs.map V.ref)) → Q (.ref p) H2) I h) fun u s1 hh => args_nil ?_) na) na))
  obtain ⟨sB, H1, a, xs, its, rfl, I1, es, st, al, k, rv, hl, q⟩ := hh
  obtain ⟨h1, e1⟩ : ∃ h1, s1.heap = h1 := ⟨_, rfl⟩
  rw [e1] at es st k
  subst es
  have lx : xs.length = its.length := rv.length
  refine PySem.EnT.call_lst (s := { sB with heap := h1 }) (I1.ok.hd hc) st (Nat.succ_ne_self _) (Nat.ne_of_lt (Nat.lt_succ_of_lt al)) (Nat.ne_of_lt al) (by rw [List.size_toArray, ← lx, sizeLine_eq]; omega) fun h' tk acc c' Ts hS rw hk => ?_
  have kk := en_keep k hk
  have hS : h'.get? h1.objs.size = some { cls := .type "list", dict := none, data := .seq acc c', slots := #[] } := hS
  have rw : PySem.EnT.Rw h' (h1.objs.size + 1) its.toArray its.toArray.size acc Ts := rw
  have lB : sB.heap.objs.size ≤ h1.objs.size := Nat.le_of_lt (PySem.EnT.ES.lt (s := { sB with heap := h1 }) st).2.1
  obtain ⟨G, g1, g2⟩ := restrict h' fun b => decide (b ≠ h1.objs.size)
  have gk : ∀ b, b ≠ h1.objs.size → G.get? b = h'.get? b := fun b n => g1 b (decide_eq_true n)
  have ga : G.get? h1.objs.size = none := g2 _ (by simp)
  have kG : ∀ b o, sB.heap.get? b = some o → G.get? b = some o := fun b o y => (gk b (Nat.ne_of_lt (Nat.lt_of_lt_of_le (Heap.lt_size y) lB))).trans (kk b o y)
  have rG : PySem.EnT.Rw G (h1.objs.size + 1) its.toArray its.toArray.size acc Ts := rw.frame fun b o hb y => (gk b (Nat.ne_of_gt hb)).trans y
  obtain ⟨L, I3, lt, hL, hq⟩ := en_done (tk := tk) I1 kG rv (Nat.le_succ_of_le lB) rG
  have ge : ∀ a ∈ L.map (·.1), sB.heap.objs.size ≤ a := fun a m => by
    rw [hL] at m
    exact Nat.le_trans (Nat.le_succ_of_le lB) (rG.ge a m)
  have fr : lay H1 L h1.objs.size = none := by
    rw [lay_off fun m => by
      rw [hL] at m
      exact Nat.lt_irrefl _ (rG.ge _ m)]
    exact I1.hok.fresh lB
  have e0 := lay_ex I1 ge
  have I4 := Inv.laidN (h' := h') (a := h1.objs.size) (o := .lst (Ts.map V.ref)) (t' := tk) I3 (fun b u y => by
    have n : b ≠ h1.objs.size := fun z => by
      have y2 : G.get? b = some u := y
      rw [z, ga] at y2
      cases y2
    exact (gk b n).symm.trans y) ga fr (by
    refine ⟨by rw [List.length_map, lt, sizeLine_eq]; omega, acc.toList, c', by rw [rw.eq]; exact vals_refs Ts, ?_⟩
    rw [Array.toArray_toList]
    exact hS)
  exact ⟨.ref h1.objs.size, _, I4, rfl, q Ts h1.objs.size _ lt (e0.trans (ex_new fr)) (fun j t v y1 y2 => (upd_ne (ne_of_none (hq j t v y1 y2) fr)).trans (hq j t v y1 y2)) (e0.free fr) upd_same⟩
end
/-! ### by data -/
section
variable {K : PySem.W.Frag} {o : List Addr} {ds : List (Option PyData)} {te : TE}
theorem dds_enum {H H2 : Hp} {xs : List V} {es : List PyData} (W2 : Owned H2 o) (t : DDs K (hide H2 o) xs es) (qs : List Addr) (hl : qs.length = xs.length) (hq : ∀ j q v, qs[j]? = some q → xs[j]? = some v → H2 q = some (.tup [.int (j : Nat), v])) : DDs K (hide H2 o) (qs.map V.ref) (enumD es) := by
  have key : ∀ (n : Nat) (qs : List Addr) (xs : List V) (es : List PyData), DDs K (hide H2 o) xs es → qs.length = xs.length → (∀ j q v, qs[j]? = some q → xs[j]? = some v → H2 q = some (.tup [.int ((j + n : Nat) : Int), v])) → DDs K (hide H2 o) (qs.map V.ref) (es.mapIdx fun i e => .tuple [.int ((i + n : Nat) : Int), e]) := by
    intro n qs
    induction qs generalizing n with
    | nil =>
      intro xs es t l _
      cases t with
      | nil => exact .nil
      | cons _ _ => simp at l
    | cons q qs ih =>
      intro xs es t l h
      cases t with
      | nil => simp at l
      | @cons v vs e es r1 r2 =>
        rw [List.mapIdx_cons]
        have h0 := h 0 q v rfl rfl
        have nq : q ∉ o := owned_ne W2 h0 fun z => z
        refine .cons (.tup (SqT.of (by rw [hide_out nq]; exact h0)) (.cons (.int _) (.cons r1 .nil))) ?_
        have z := ih (n + 1) vs es r2 (by simpa using l) fun j q' v' a b => by
          have z := h (j + 1) q' v' (by simpa using a) (by simpa using b)
          rw [show j + 1 + n = j + (n + 1) by omega] at z
          exact z
        have e : (fun (i : Nat) (e : PyData) => PyData.tuple [.int ((i + 1 + n : Nat) : Int), e]) = fun (i : Nat) e => PyData.tuple [.int ((i + (n + 1) : Nat) : Int), e] := by
          funext i e
          rw [show i + 1 + n = i + (n + 1) by omega]
        rw [e]
        exact z
  exact key 0 qs xs es t hl hq
theorem ev_enTup {es : List PyData} (h : EvD K o te ds (.tuple es)) (hl : es.length ≤ 1000000) : EvD K o (tEn K .tup te) ds (.tuple (enumD es)) := fun σ H E W Q q =>
  h σ H E W _ fun v H1 e1 W1 x => by
    obtain ⟨a, xs, rfl, hS, t⟩ := dd_tup x
    refine ⟨a, xs, rfl, ex_sqT hide_ex hS, by rw [t.length]; exact hl, fun qs p H2 ql e2 hq np hp => ?_⟩
    have W2 := ow_mono W1 e2
    have pn : p ∉ o := ow_new W1 np
    exact q _ H2 (e1.trans e2) W2 (.tup (SqT.of (by rw [hide_out pn]; exact hp)) (dds_enum (H := H1) W2 (t.mono (ex_hide e2)) qs ql hq))
theorem ev_enLst {es : List PyData} (h : EvD K o te ds (.tuple es)) (hl : es.length ≤ 1000000) : EvD K o (tEn K .lst te) ds (.list (enumD es)) := fun σ H E W Q q =>
  h σ H E W _ fun v H1 e1 W1 x => by
    obtain ⟨a, xs, rfl, hS, t⟩ := dd_tup x
    refine ⟨a, xs, rfl, ex_sqT hide_ex hS, by rw [t.length]; exact hl, fun qs p H2 ql e2 hq np hp => ?_⟩
    have W2 := ow_mono W1 e2
    have pn : p ∉ o := ow_new W1 np
    exact q _ H2 (e1.trans e2) W2 (.lst (by rw [hide_out pn]; exact hp) (dds_enum (H := H1) W2 (t.mono (ex_hide e2)) qs ql hq))
end
end Ph

namespace K2
open PySem PySem.Spec PyProof.Rows L2 Ph
section
variable {P : Program} {w : World} {K : PySem.W.Frag} {mg : Str → Option Value} {base : Heap}

def enumC (n : Nat) (ns : List Int) : List (Int × Int) := ns.mapIdx fun i x => (((i + n : Nat) : Int), x)
theorem enumD_nums (ns : List Int) : enumD (ns.map PyData.int) = (enumC 0 ns).map chg := by
  unfold enumD enumC
  apply List.ext_getElem?
  intro i
  rw [List.getElem?_mapIdx, List.getElem?_map, List.getElem?_map, List.getElem?_mapIdx]
  cases ns[i]? <;> rfl
abbrev s_plain : Stmt := top 14
abbrev N_plain : List Str := ["word"]
theorem sc_plain : FnScope N_plain ["word"] (defScope s_plain) := ⟨rfl, rfl, rfl, by decide +kernel, rfl, by decide +kernel, by decide +kernel⟩
abbrev R_plain : List PyData → PyData → Prop := fun as d => ∃ ns : List Int, as = [nums ns] ∧ ns.length ≤ 1000 ∧ d = his (if (ns.length : Int) > 1 then ns.length else 1) (enumC 0 ns)
theorem ok_plain {f : Addr} {fd : FuncData} (F : Fun K "plain" "plain" s_plain f fd) (T : Blt mg)  : FnOk P w K mg base CX0 1 f fd ["word"] (spD K 1 R_plain) := by
  refine fn_pure F sc_plain rfl fun cdv A outer s H E hr => ?_
  have hu64 : (A.deeper (envOfC "plain" (defScope s_plain) s.heap.objs.size f cdv)).units + 64 < cLine := hr.units
  have hu1 : (A.deeper (envOfC "plain" (defScope s_plain) s.heap.objs.size f cdv)).units + 1 < cLine := by omega
  refine ⟨_, (pss_one (ps_ret (pe_tup (pa_cons (pe_callB (call_max2 rfl) (by rfl) T.max (by decide +kernel) (pa_cons pe_int (pa_cons (pe_callB call_len_seq (by rfl) T.len PySem.boot_len (pa_cons (pv 0) pa_nil)) pa_nil))) (pa_cons (pe_enTup rfl (by rfl) T.tuple (pen (by rfl) T.enumerate (pv 0))) pa_nil))))), fun as d hl hR => ?_⟩
  obtain ⟨ns, rfl, hn, rfl⟩ := hR
  refine sr_to (sr_ret (ev_tup (ea_cons (ev_cb (ea_cons ev_int (ea_cons (ev_cb (ea_cons (ev_var (by rfl)) ea_nil) cb_lenT) ea_nil)) cb_max) (ea_cons (ev_enTup (ev_var (by rfl)) ?_) ea_nil)) (by show 2 ≤ sizeLine; decide))) ?_
  · rw [List.length_map]
    omega
  · rw [enumD_nums, List.length_map]

end
end K2

namespace K2
open PySem PySem.Spec PyProof.Rows L2 Ph
section
variable {P : Program} {w : World} {K : PySem.W.Frag} {mg : Str → Option Value} {base : Heap}

theorem pe_cal0 {X : Cx} {x : Str} {k : Nat} {ps : List Str} {sp : Sp} {p pos : Pos} (C : Cal X.prog X.w X.K X.mg X.base x k ps sp) (hr : Room k X.A) (hg : Gl X x) (hdb : (x == ("__debug__" : Str)) = false := by decide) :
    PE X (.Call (.Name x p) [] [] pos) (tCall (spHide sp) [] E0 tNil) := by
  obtain ⟨f, fd, hm, hk, hb, F⟩ := C
  exact pe_call0 (fn_hide F) hr hg hm hk hb .nil pass0 hdb
/-- a right of a new source -/
theorem ev_boxed {o : List Addr} {ds : List (Option PyData)} {t1 t2 : TE} {E1 E2 : XK} {kk k : Nat} {ns : List Int} (h1 : EvD K o t1 ds (.list (ns.map PyData.int))) (h2 : EvD K o t2 ds (.int k)) (hk : k < ns.length) (h3 : k ≤ 1000) (hb : kk ≤ 100000) :
    EvD K o (tCall (spHide (spU K 0 kk (fun as => as = []) fun _ d => d = .bool true)) [] E1 (tCons (tCall (spHide spBox) [] E2 (tCons t1 (tCons t2 tNil))) tNil)) ds (.bool true) := fun σ H E W Q q =>
  h1 σ H E W _ fun v H1 e1 W1 x => h2 σ H1 (E.mono (ex_hide e1)) W1 _ fun u H2 e2 W2 y => by
    obtain ⟨a, xs, rfl, ha, t⟩ := dd_lst (x.mono (ex_hide e2))
    have ev := dds_ints t
    subst ev
    cases dd_int y
    refine ⟨o, W2, a, ns, k, rfl, ha, hk, h3, fun u G eG nu U g => ?_⟩
    have uo : u ∉ o := fun m => by
      obtain ⟨b, c, n, hu, _⟩ := U
      rw [g u m] at hu
      cases hu
    have hG : hide (back H2 o G) o = G := back_hide g
    refine ⟨o, ow_mono W2 (back_ex eG), u, 0, [], [], rfl, by rw [hG]; exact U, by omega, .nil, rfl, rfl, fun v d H' r ex3 U3 x3 g3 => ?_⟩
    subst r
    cases dd_bool x3
    have e3 : Ex H2 (back (back H2 o G) o H') := fun b z hz => by
      by_cases c : b ∈ o
      · rw [back_in c, back_in c]
        exact hz
      · rw [back_out c]
        have q1 : G b = some z := eG b z (by rw [hide_out c]; exact hz)
        have bu : b ≠ u := fun e => by
          rw [hide_out uo] at nu
          rw [e, nu] at hz
          cases hz
        have nb : b ∉ [u] := by simpa using bu
        have q2 := ex3 b z (by rw [hide_out nb, hG]; exact q1)
        exact (hide_some q2).2
    exact q _ _ (e1.trans (e2.trans e3)) (ow_mono W2 e3) (.bl _)
theorem gn_step {i : Nat} {v : V} {σ : L2.St} {H : Hp} {k : L2.St → Hp → Prop} (h : k (σ.set i (some v)) H) : gName i v σ H k := h
abbrev s_law : Stmt := top 30
abbrev N_law : List Str := ["script", "cells_so", "k"]
theorem sc_law : FnScope N_law ["script"] (defScope s_law) := ⟨rfl, rfl, rfl, by decide +kernel, rfl, by decide +kernel, by decide +kernel⟩
def spLaw (K : PySem.W.Frag) : Sp := fun vs H Q _ => ∃ (a : Addr) (ns : List Int), vs = [.ref a] ∧ SqL K H a (ns.map V.int) ∧ ns.length ≤ 63 ∧ ∀ H', Q (.bl true) H'
abbrev R_by_hand : List PyData → PyData → Prop := fun _ d => d = .bool true
theorem ok_law {f : Addr} {fd : FuncData} {kk : Nat} (hkk : kk ≤ 100000) (F : Fun K "law" "law" s_law f fd) (T : Blt mg) (C0 : Cal P w K mg base "_law_by_hand_right" 20 [] (spD K 0 R_by_hand)) (Cc : Cal P w K mg base "_law_cells" 1 ["script", "top"] (spCells K)) (Cb : Cal P w K mg base "_law_box" 1 ["script", "k"] spBox)
    (Cr : Cal P w K mg base "_law_right" 20 ["urn"] (spU K 0 kk (fun as => as = []) fun _ d => d = .bool true)) : FnOk P w K mg base CX0 21 f fd ["script"] (spLaw K) := by
  refine F.ok sc_law (fun vs H Q E h => ?_) (fun cdv A outer s H vs Q E hr h => ?_)
  · obtain ⟨a, ns, rfl, _⟩ := h
    rfl
  · obtain ⟨a, ns, rfl, hS, hlen, q⟩ := h
    refine ⟨_, (pss_cons (ps_if (pt_not (pt_val (pe_cal0 C0 (hr.mono (by decide)) (by rfl)))) (pss_one (ps_ret pe_bl)) pss_nil)
      (pss_cons (ps_set (i := 1) sc_law.nd rfl (Or.inr rfl) (pe_calU Cc (hr.mono (by decide)) (by rfl) (pa_cons (pv 0) (pa_cons pe_int pa_nil))))
      (pss_one (ps_ret (pe_callB (cr_all rfl) (by rfl) T.all (by decide +kernel) (pa_cons (pe_lc (own := [("k", 2)]) (g := (gName 2)) (tt := tYes) (te := (tCall (spHide _) [] E0 (tCons (tCall (spHide _) [] E0 (tCons (tVar 1) (tCons (tVar 2) tNil))) tNil))) rfl sc_law.nd (pi_range1 rfl T.range (pa_cons (pe_callB call_len_seq (by rfl) T.len PySem.boot_len (pa_cons (pv 1) pa_nil)) pa_nil)) (blkOk_by (N := N_law) (sc := defScope s_law) (by decide +kernel)) (fun _ _ _ _ _ => by exact (pg_name (i := 2) sc_law.nd rfl (Or.inl rfl))) (fun _ _ _ _ _ => by exact pts_nil) (fun _ _ _ _ _ => by exact (pe_cal Cr (hr.mono (by decide)) (by rfl) (pa_cons (pe_cal Cb (hr.mono (by decide)) (by rfl) (pa_cons (pv 1) (pa_cons (pv 2) pa_nil))) pa_nil)))) pa_nil)))))), ?_⟩
    have E0 : En K (hide H []) (L2.start N_law [.ref a]) [none, none, none] := .no (.no (.no .nil))
    refine ss_if (b := !true) E0 own0 ?hb fun H1 e1 W1 => ?_
    case hb => exact eb_not (eb_B (ev_call ea_nil rfl rfl))
    refine iteF ?_
    refine ⟨.ref a, rfl, a, ns, 2, rfl, Same.seq e1 hS, hlen, by decide, by decide, fun p H2 ms e2 np hp m1 m2 => ?_⟩
    refine gn_step ?_
    dsimp only
    refine st_ret (K := K) (e := .bool true) (ds := [none, some (.list (ms.map PyData.int)), none]) (o := []) (.no (.yes (.lst (by rw [hide_nil]; exact hp) (dds_of_ints ms)) (.no .nil))) own0 ?he fun v H3 e3 W3 x => ?_
    case he =>
      refine ev_to (ev_allc (fun i : Nat => PyData.int ((0 : Int) + (i : Nat))) (xs := List.range (((ms.map PyData.int).length : Int).toNat)) (fun _ => true) _ (ei_rng1 (ev_cb (ea_cons (ev_var (i := 1) (by rfl)) ea_nil) cb_lenL) ?_ ?_) ?_ (gw_name (by simp)) (fun e _ => gt_name) (fun e he o => ?_)) ?_
      · exact Int.le_trans (by decide) (Int.natCast_nonneg _)
      · rw [List.length_map]
        omega
      · rw [List.length_range, List.length_map]
        omega
      · rw [List.mem_range, List.length_map] at he
        exact ev_boxed (k := e) (ev_var (by rfl)) (ev_to (ev_var (d := .int ((0 : Int) + (e : Nat))) (by rfl)) (by rw [Int.zero_add])) (by omega) (by omega) hkk
      · rw [List.all_eq_true.mpr (fun _ _ => rfl)]
    cases dd_bool x
    exact q _
end
end K2

namespace K2
open PySem PySem.Spec PyProof.Rows L2 Ph
section
variable {P : Program} {w : World} {K : PySem.W.Frag} {mg : Str → Option Value} {base : Heap}
abbrev s__law_by_hand_right : Stmt := top 29
abbrev N__law_by_hand_right : List Str := ["heard", "due", "own"]
theorem sc__law_by_hand_right : FnScope N__law_by_hand_right [] (defScope s__law_by_hand_right) := ⟨rfl, rfl, rfl, by decide +kernel, rfl, by decide +kernel, by decide +kernel⟩

theorem ok_nums {ns : List Int} (n : Nat) (h : ns.length ≤ 1000000) : okD (n + 1) (nums ns) := ⟨by rw [List.length_map]; exact h, fun e he => by
  obtain ⟨i, _, rfl⟩ := List.mem_map.mp he
  exact okD_scal rfl⟩
theorem ok_chg (c : Int × Int) (n : Nat) : okD (n + 1) (chg c) := ok_nums (ns := [c.1, c.2]) n (by show 2 ≤ 1000000; decide)
theorem ok_his {m : Int} {cs : List (Int × Int)} (n : Nat) (h : cs.length ≤ 1000000) : okD (n + 3) (his m cs) := ⟨by show 2 ≤ 1000000; decide, fun e he => by
  simp only [List.mem_cons, List.not_mem_nil, or_false] at he
  rcases he with rfl | rfl
  · exact okD_scal rfl
  · refine ⟨by rw [List.length_map]; exact h, fun e he => ?_⟩
    obtain ⟨c, _, rfl⟩ := List.mem_map.mp he
    exact ok_chg c n⟩
theorem ok_flat {es : List PyData} (n : Nat) (h : es.length ≤ 1000000) (s : ∀ e ∈ es, scalD e = true) : okD (n + 1) (.list es) := ⟨h, fun e he => okD_scal (s e he)⟩
abbrev X1 : List (Int × List (Int × Int)) := [(2, [(1, 1), (1, 2)]), (2, [(1, 1)])]
abbrev X2 : List (Int × List (Int × Int)) := [(2, [(1, 1), (0, 2), (1, 0)]), (2, [(1, 1), (1, 0)])]
abbrev D5 : List PyData := [nums [2, 1], nums [2, 0], his 5 [(1, 1), (2, 2)], his 2 [(0, 2), (1, 1)], .list [.str "place", .int 2]]
theorem ok__law_by_hand_right {f : Addr} {fd : FuncData} (F : Fun K "_law_by_hand_right" "_law_by_hand_right" s__law_by_hand_right f fd) (T : Blt mg) (C_reads : Cal P w K mg base "reads" 1 ["text"] (spD K 1 R_reads)) (C_text_behind : Cal P w K mg base "text_behind" 1 ["history"] (spD K 1 R_text_behind)) (C_beside : Cal P w K mg base "beside" 1 ["one", "other"] (spD K 2 R_beside)) (C_plain : Cal P w K mg base "plain" 1 ["word"] (spD K 1 R_plain)) (C__law_heard : Cal P w K mg base "_law_heard" 4 ["text", "change"] (spD K 2 R__law_heard)) (C_puts_only : Cal P w K mg base "puts_only" 1 ["history"] (spD K 1 R_puts_only)) (C_takes_back : Cal P w K mg base "takes_back" 1 ["history"] (spD K 1 R_takes_back)) (C__law_same : Cal P w K mg base "_law_same" 6 ["got", "goal"] (spD K 2 (R_same 6))) : FnOk P w K mg base CX0 20 f fd [] (spD K 0 R_by_hand) := by
  refine fn_pure F sc__law_by_hand_right rfl fun cdv A outer s H E hr => ?_
  refine ⟨_, (pss_cons (ps_set (i := 0) sc__law_by_hand_right.nd rfl (Or.inl rfl) (pe_lst (pa_cons (pe_cal C_reads (hr.mono (by decide)) (by rfl) (pa_cons (pe_tup (pa_cons pe_int (pa_cons pe_int (pa_cons pe_int (pa_cons pe_int pa_nil))))) pa_nil)) (pa_cons (pe_cal C_text_behind (hr.mono (by decide)) (by rfl) (pa_cons (pe_tup (pa_cons pe_int (pa_cons (pe_tup (pa_cons (pe_tup (pa_cons pe_int (pa_cons pe_int pa_nil))) (pa_cons (pe_tup (pa_cons pe_int (pa_cons pe_int pa_nil))) (pa_cons (pe_tup (pa_cons pe_int (pa_cons pe_int pa_nil))) pa_nil)))) pa_nil))) pa_nil)) (pa_cons (pe_cal C_beside (hr.mono (by decide)) (by rfl) (pa_cons (pe_tup (pa_cons pe_int (pa_cons (pe_tup (pa_cons (pe_tup (pa_cons pe_int (pa_cons pe_int pa_nil))) pa_nil)) pa_nil))) (pa_cons (pe_tup (pa_cons pe_int (pa_cons (pe_tup (pa_cons (pe_tup (pa_cons pe_int (pa_cons pe_int pa_nil))) pa_nil)) pa_nil))) pa_nil))) (pa_cons (pe_cal C_plain (hr.mono (by decide)) (by rfl) (pa_cons (pe_tup (pa_cons pe_int (pa_cons pe_int pa_nil))) pa_nil)) (pa_cons (pe_cal C__law_heard (hr.mono (by decide)) (by rfl) (pa_cons (pe_tup (pa_cons pe_int (pa_cons pe_int pa_nil))) (pa_cons (pe_tup (pa_cons pe_int (pa_cons pe_int pa_nil))) pa_nil))) pa_nil)))))))
      (pss_cons (ps_set (i := 1) sc__law_by_hand_right.nd rfl (Or.inl rfl) (pe_lst (pa_cons (pe_tup (pa_cons pe_int (pa_cons pe_int pa_nil))) (pa_cons (pe_tup (pa_cons pe_int (pa_cons pe_int pa_nil))) (pa_cons (pe_tup (pa_cons pe_int (pa_cons (pe_tup (pa_cons (pe_tup (pa_cons pe_int (pa_cons pe_int pa_nil))) (pa_cons (pe_tup (pa_cons pe_int (pa_cons pe_int pa_nil))) pa_nil))) pa_nil))) (pa_cons (pe_tup (pa_cons pe_int (pa_cons (pe_tup (pa_cons (pe_tup (pa_cons pe_int (pa_cons pe_int pa_nil))) (pa_cons (pe_tup (pa_cons pe_int (pa_cons pe_int pa_nil))) pa_nil))) pa_nil))) (pa_cons (pe_lst (pa_cons pe_str (pa_cons pe_int pa_nil))) pa_nil)))))))
      (pss_cons (ps_set (i := 0) sc__law_by_hand_right.nd rfl (Or.inl rfl) (pe_op op_cat (pv 0) (pe_lst (pa_cons (pe_lc (own := [("own", 2)]) (g := (gName 2)) (tt := tYes) (te := (tCall (spHide _) [] E0 (tCons (tVar 2) tNil))) rfl sc__law_by_hand_right.nd (pi_tup (pe_tup (pa_cons (pe_tup (pa_cons pe_int (pa_cons (pe_tup (pa_cons (pe_tup (pa_cons pe_int (pa_cons pe_int pa_nil))) (pa_cons (pe_tup (pa_cons pe_int (pa_cons pe_int pa_nil))) pa_nil))) pa_nil))) (pa_cons (pe_tup (pa_cons pe_int (pa_cons (pe_tup (pa_cons (pe_tup (pa_cons pe_int (pa_cons pe_int pa_nil))) pa_nil)) pa_nil))) pa_nil)))) (blkOk_by (N := N__law_by_hand_right) (sc := defScope s__law_by_hand_right) (by decide +kernel)) (fun _ _ _ _ _ => by exact (pg_name (i := 2) sc__law_by_hand_right.nd rfl (Or.inl rfl))) (fun _ _ _ _ _ => by exact pts_nil) (fun _ _ _ _ _ => by exact (pe_cal C_puts_only (hr.mono (by decide)) (by rfl) (pa_cons (pv 2) pa_nil)))) (pa_cons (pe_lc (own := [("own", 2)]) (g := (gName 2)) (tt := tYes) (te := (tCall (spHide _) [] E0 (tCons (tVar 2) tNil))) rfl sc__law_by_hand_right.nd (pi_tup (pe_tup (pa_cons (pe_tup (pa_cons pe_int (pa_cons (pe_tup (pa_cons (pe_tup (pa_cons pe_int (pa_cons pe_int pa_nil))) (pa_cons (pe_tup (pa_cons pe_int (pa_cons pe_int pa_nil))) (pa_cons (pe_tup (pa_cons pe_int (pa_cons pe_int pa_nil))) pa_nil)))) pa_nil))) (pa_cons (pe_tup (pa_cons pe_int (pa_cons (pe_tup (pa_cons (pe_tup (pa_cons pe_int (pa_cons pe_int pa_nil))) (pa_cons (pe_tup (pa_cons pe_int (pa_cons pe_int pa_nil))) pa_nil))) pa_nil))) pa_nil)))) (blkOk_by (N := N__law_by_hand_right) (sc := defScope s__law_by_hand_right) (by decide +kernel)) (fun _ _ _ _ _ => by exact (pg_name (i := 2) sc__law_by_hand_right.nd rfl (Or.inl rfl))) (fun _ _ _ _ _ => by exact pts_nil) (fun _ _ _ _ _ => by exact (pe_cal C_takes_back (hr.mono (by decide)) (by rfl) (pa_cons (pv 2) pa_nil)))) pa_nil)))))
      (pss_one (ps_ret (pe_cal C__law_same (hr.mono (by decide)) (by rfl) (pa_cons (pv 0) (pa_cons (pe_op op_cat (pv 1) (pe_lst (pa_cons (pe_lst (pa_cons pe_bl (pa_cons pe_bl pa_nil))) (pa_cons (pe_lst (pa_cons pe_bl (pa_cons pe_bl pa_nil))) pa_nil)))) pa_nil)))))))), fun as d hl hR => ?_⟩
  have hR : d = .bool true := hR
  subst hR
  have e0 : as = [] := List.eq_nil_of_length_eq_zero hl
  subst e0
  refine sr_seq (sn_set (e := .list D5) (ev_lst (ea_cons (ev_to (ev_call (ea_cons (ev_tup (ea_cons ev_int (ea_cons ev_int (ea_cons ev_int (ea_cons ev_int ea_nil)))) (by show 4 ≤ sizeLine; decide)) ea_nil) rfl ⟨[0, 2, 0, 1], rfl, by decide, rfl⟩) rfl)
    (ea_cons (ev_to (ev_call (ea_cons (ev_tup (ea_cons ev_int (ea_cons (ev_tup (ea_cons (ev_tup (ea_cons ev_int (ea_cons ev_int ea_nil)) (by show 2 ≤ sizeLine; decide)) (ea_cons (ev_tup (ea_cons ev_int (ea_cons ev_int ea_nil)) (by show 2 ≤ sizeLine; decide)) (ea_cons (ev_tup (ea_cons ev_int (ea_cons ev_int ea_nil)) (by show 2 ≤ sizeLine; decide)) ea_nil))) (by show 3 ≤ sizeLine; decide)) ea_nil)) (by show 2 ≤ sizeLine; decide)) ea_nil) rfl ⟨2, [(1, 1), (0, 2), (1, 0)], rfl, ⟨by decide, by decide, by decide, by decide⟩, rfl⟩) rfl)
    (ea_cons (ev_to (ev_call (ea_cons (ev_tup (ea_cons ev_int (ea_cons (ev_tup (ea_cons (ev_tup (ea_cons ev_int (ea_cons ev_int ea_nil)) (by show 2 ≤ sizeLine; decide)) ea_nil) (by show 1 ≤ sizeLine; decide)) ea_nil)) (by show 2 ≤ sizeLine; decide)) (ea_cons (ev_tup (ea_cons ev_int (ea_cons (ev_tup (ea_cons (ev_tup (ea_cons ev_int (ea_cons ev_int ea_nil)) (by show 2 ≤ sizeLine; decide)) ea_nil) (by show 1 ≤ sizeLine; decide)) ea_nil)) (by show 2 ≤ sizeLine; decide)) ea_nil)) rfl ⟨2, [(1, 1)], 3, [(0, 2)], rfl, by decide, by decide, rfl⟩) rfl)
    (ea_cons (ev_to (ev_call (ea_cons (ev_tup (ea_cons ev_int (ea_cons ev_int ea_nil)) (by show 2 ≤ sizeLine; decide)) ea_nil) rfl ⟨[2, 1], rfl, by decide, rfl⟩) rfl)
    (ea_cons (ev_to (ev_call (ea_cons (ev_tup (ea_cons ev_int (ea_cons ev_int ea_nil)) (by show 2 ≤ sizeLine; decide)) (ea_cons (ev_tup (ea_cons ev_int (ea_cons ev_int ea_nil)) (by show 2 ≤ sizeLine; decide)) ea_nil)) rfl ⟨[0, 1], (2, 1), rfl, by decide, by decide, rfl⟩) rfl) ea_nil))))) (by show 5 ≤ sizeLine; decide))) ?_
  refine sr_seq (sn_set (e := .list D5) (ev_lst (ea_cons (ev_tup (ea_cons ev_int (ea_cons ev_int ea_nil)) (by show 2 ≤ sizeLine; decide)) (ea_cons (ev_tup (ea_cons ev_int (ea_cons ev_int ea_nil)) (by show 2 ≤ sizeLine; decide)) (ea_cons (ev_tup (ea_cons ev_int (ea_cons (ev_tup (ea_cons (ev_tup (ea_cons ev_int (ea_cons ev_int ea_nil)) (by show 2 ≤ sizeLine; decide)) (ea_cons (ev_tup (ea_cons ev_int (ea_cons ev_int ea_nil)) (by show 2 ≤ sizeLine; decide)) ea_nil)) (by show 2 ≤ sizeLine; decide)) ea_nil)) (by show 2 ≤ sizeLine; decide)) (ea_cons (ev_tup (ea_cons ev_int (ea_cons (ev_tup (ea_cons (ev_tup (ea_cons ev_int (ea_cons ev_int ea_nil)) (by show 2 ≤ sizeLine; decide)) (ea_cons (ev_tup (ea_cons ev_int (ea_cons ev_int ea_nil)) (by show 2 ≤ sizeLine; decide)) ea_nil)) (by show 2 ≤ sizeLine; decide)) ea_nil)) (by show 2 ≤ sizeLine; decide)) (ea_cons (ev_lst (ea_cons ev_str (ea_cons ev_int ea_nil)) (by show 2 ≤ sizeLine; decide)) ea_nil))))) (by show 5 ≤ sizeLine; decide))) ?_
  refine sr_seq (sn_set (e := .list (D5 ++ [.list [.bool false, .bool true], .list [.bool false, .bool true]])) ?h3) ?_
  case h3 =>
    have l1 : ∀ e ∈ X1, e.2.length ≤ 1000 := by decide
    have l2 : ∀ e ∈ X2, e.2.length ≤ 1000 ∧ ∀ p ∈ e.2, 0 ≤ p.2 := by decide
    refine ev_op (ev_var (d := .list D5) (by rfl)) (ev_lst (ea_cons (ev_to (ev_lcm (fun h : Int × List (Int × Int) => his h.1 h.2) (xs := X1) (fun h => .bool (onlyN h.2 h.2.length).isSome) _ (ei_tup (ev_tup (ea_cons (ev_tup (ea_cons ev_int (ea_cons (ev_tup (ea_cons (ev_tup (ea_cons ev_int (ea_cons ev_int ea_nil)) (by show 2 ≤ sizeLine; decide)) (ea_cons (ev_tup (ea_cons ev_int (ea_cons ev_int ea_nil)) (by show 2 ≤ sizeLine; decide)) ea_nil)) (by show 2 ≤ sizeLine; decide)) ea_nil)) (by show 2 ≤ sizeLine; decide)) (ea_cons (ev_tup (ea_cons ev_int (ea_cons (ev_tup (ea_cons (ev_tup (ea_cons ev_int (ea_cons ev_int ea_nil)) (by show 2 ≤ sizeLine; decide)) ea_nil) (by show 1 ≤ sizeLine; decide)) ea_nil)) (by show 2 ≤ sizeLine; decide)) ea_nil)) (by show 2 ≤ sizeLine; decide))) (by decide) (gw_name (by simp)) (fun e _ => gt_name) (fun e he o => ev_call (ea_cons (ev_var (by rfl)) ea_nil) rfl ⟨e.1, e.2, rfl, l1 e he, rfl⟩)) ?q1)
      (ea_cons (ev_to (ev_lcm (fun h : Int × List (Int × Int) => his h.1 h.2) (xs := X2) (fun h => .bool (pileN h.2 h.2.length).isSome) _ (ei_tup (ev_tup (ea_cons (ev_tup (ea_cons ev_int (ea_cons (ev_tup (ea_cons (ev_tup (ea_cons ev_int (ea_cons ev_int ea_nil)) (by show 2 ≤ sizeLine; decide)) (ea_cons (ev_tup (ea_cons ev_int (ea_cons ev_int ea_nil)) (by show 2 ≤ sizeLine; decide)) (ea_cons (ev_tup (ea_cons ev_int (ea_cons ev_int ea_nil)) (by show 2 ≤ sizeLine; decide)) ea_nil))) (by show 3 ≤ sizeLine; decide)) ea_nil)) (by show 2 ≤ sizeLine; decide)) (ea_cons (ev_tup (ea_cons ev_int (ea_cons (ev_tup (ea_cons (ev_tup (ea_cons ev_int (ea_cons ev_int ea_nil)) (by show 2 ≤ sizeLine; decide)) (ea_cons (ev_tup (ea_cons ev_int (ea_cons ev_int ea_nil)) (by show 2 ≤ sizeLine; decide)) ea_nil)) (by show 2 ≤ sizeLine; decide)) ea_nil)) (by show 2 ≤ sizeLine; decide)) ea_nil)) (by show 2 ≤ sizeLine; decide))) (by decide) (gw_name (by simp)) (fun e _ => gt_name) (fun e he o => ev_call (ea_cons (ev_var (by rfl)) ea_nil) rfl ⟨e.1, e.2, rfl, (l2 e he).1, (l2 e he).2, rfl⟩)) ?q2) ea_nil)) (by show 2 ≤ sizeLine; decide)) (od_cat (by show 7 ≤ sizeLine; decide))
    case q1 => rfl
    case q2 => rfl
  refine sr_to (sr_ret (ev_call (ea_cons (ev_var (d := .list (D5 ++ [.list [.bool false, .bool true], .list [.bool false, .bool true]])) (by rfl)) (ea_cons (ev_op (ev_var (d := .list D5) (by rfl)) (ev_lst (ea_cons (ev_lst (ea_cons ev_bl (ea_cons ev_bl ea_nil)) (by show 2 ≤ sizeLine; decide)) (ea_cons (ev_lst (ea_cons ev_bl (ea_cons ev_bl ea_nil)) (by show 2 ≤ sizeLine; decide)) ea_nil)) (by show 2 ≤ sizeLine; decide)) (od_cat (by show 7 ≤ sizeLine; decide))) ea_nil)) rfl ⟨_, rfl, ?_, rfl⟩)) rfl
  refine ⟨by show 7 ≤ 1000000; decide, fun e he => ?_⟩
  simp only [List.cons_append, List.nil_append, List.mem_cons, List.not_mem_nil, or_false] at he
  rcases he with rfl | rfl | rfl | rfl | rfl | rfl | rfl
  · exact ok_nums 3 (by decide)
  · exact ok_nums 3 (by decide)
  · exact ok_his 1 (by decide)
  · exact ok_his 1 (by decide)
  · exact ok_flat 3 (by decide) (by decide)
  · exact ok_flat 3 (by decide) (by decide)
  · exact ok_flat 3 (by decide) (by decide)
end
end K2

namespace Ph
open PySem PySem.Spec PyProof.Rows L2
section
variable {K : PySem.W.Frag} {B : Hp} {o ps : List Addr} {M M1 M2 : ML} {σ : L2.St} {H H' : Hp} {ds ds1 ds2 : List (Option PyData)} {ta tb te : TE} {d e : PyData}
/-- a mutable is forgotten -/
theorem MS.lose (s : MS K B o M ps σ H ds) (k : Nat) : MS K B o (M.eraseIdx k) (ps.eraseIdx k) σ H ds := by
  have g : Ex (hide H (ps ++ o)) (hide H (ps.eraseIdx k ++ o)) := fun a x h => by
    obtain ⟨c, h⟩ := hide_some h
    rw [hide_out fun m => c ?_]
    · exact h
    · rcases List.mem_append.mp m with m | m
      · exact List.mem_append_left _ (List.mem_of_mem_eraseIdx m)
      · exact List.mem_append_right _ m
  exact ⟨s.ex, s.ow, s.en.mono g, (s.mu.ex (Same.refl _) g).drop k, s.nd.sublist (List.eraseIdx_sublist ..)⟩
/-! ### arguments beside mutables -/
def AvM (K : PySem.W.Frag) (o : List Addr) (M : ML) (t : TA) (ds : List (Option PyData)) (es : List PyData) : Prop :=
  ∀ B ps σ H, MS K B o M ps σ H ds → ∀ Q : List V → Hp → Prop, (∀ vs H2, MS K B o M ps σ H2 ds → Ex H H2 → DDs K (hide H2 (ps ++ o)) vs es → Q vs H2) → t σ H Q
theorem am_nil : AvM K o M tNil ds [] := fun B ps σ H s Q q => q [] H s (Same.refl _) .nil
theorem am_cons {t : TA} {es : List PyData} (h : EvM K o M ta ds d) (r : AvM K o M t ds es) : AvM K o M (tCons ta t) ds (d :: es) := fun B ps σ H s Q q =>
  h B ps σ H s _ fun v H1 s1 e1 x => r B ps σ H1 s1 _ fun vs H2 s2 e2 xs => q _ H2 s2 (e1.trans e2) (.cons (x.mono (ex_hide e2)) xs)
/-- x = x + [..] -/
theorem mn_more {k i : Nat} {es es2 : List PyData} {t : TA} (hk : M[k]? = some (i, .l es)) (h : AvM K o M t ds es2) (hl : es.length + es2.length ≤ sizeLine) (hi : ∀ m ∈ M.eraseIdx k, m.1 ≠ i) (li : i < ds.length) :
    MvN K o (tAsg (tOp rCat (tVar i) (tLst t)) (gName i)) M ds ((i, .l (es ++ es2)) :: M.eraseIdx k) (ds.set i none) := fun B D ps σ H s q => by
  obtain ⟨p, x, hp, hs, hv, ob, b, n⟩ := s.mu.at hk
  cases ob with | @l vs0 _ t0 => ?_
  refine ⟨.ref p, hs, h B ps σ H s _ fun vs H1 s1 e1 xs => ⟨by rw [xs.length]; omega, fun q0 h0 => ?_⟩⟩
  have z := ex_new (x := .lst vs) h0
  have hv1 := e1 _ _ hv
  have pq : p ≠ q0 := ne_of_none hv1 h0
  refine ⟨p, q0, vs0, vs, rfl, rfl, by rw [upd_ne pq]; exact hv1, upd_same, by rw [t0.length, xs.length]; exact hl, fun q1 h1 => ?_⟩
  have s2 := s1.to z
  have s3 := s2.lose k
  have g : Ex (hide H (ps ++ o)) (hide (upd H1 q0 (.lst vs)) (ps.eraseIdx k ++ o)) := fun a y h => by
    obtain ⟨c, h⟩ := hide_some h
    rw [hide_out fun m => c ?_]
    · exact z _ _ (e1 _ _ h)
    · rcases List.mem_append.mp m with m | m
      · exact List.mem_append_left _ (List.mem_of_mem_eraseIdx m)
      · exact List.mem_append_right _ m
  have g1 : Ex (hide H1 (ps ++ o)) (hide (upd H1 q0 (.lst vs)) (ps.eraseIdx k ++ o)) := fun a y h => by
    obtain ⟨c, h⟩ := hide_some h
    rw [hide_out fun m => c ?_]
    · exact z _ _ h
    · rcases List.mem_append.mp m with m | m
      · exact List.mem_append_left _ (List.mem_of_mem_eraseIdx m)
      · exact List.mem_append_right _ m
  exact q _ _ _ ((s3.mv h1 (.l ((t0.mono g).append (xs.mono g1)))).bind hi li)
end
end Ph

namespace K2
open PySem PySem.Spec PyProof.Rows L2 Ph
theorem getD_set {l : List Int} {i j : Nat} {x : Int} (h : i < l.length) : (l.set i x).getD j 0 = if j = i then x else l.getD j 0 := by
  rw [List.getD_eq_getElem?_getD, List.getD_eq_getElem?_getD, List.getElem?_set]
  by_cases c : i = j
  · rw [if_pos c, if_pos h, if_pos c.symm]
    rfl
  · rw [if_neg c, if_neg (Ne.symm c)]
def tx (k : KS) (p : Int) : Int := k.text.getD p.toNat 0
theorem tx_next {k : KS} {m : Int} {c : Int × Int} {p : Int} (hl : (k.text.length : Int) = m) (h0 : 0 ≤ c.1) (h1 : c.1 < m) (hp : 0 ≤ p) : tx (k.next c) p = if p = c.1 then c.2 else tx k p := by
  show (step k.text c).getD p.toNat 0 = _
  unfold step
  rw [getD_set (by omega)]
  by_cases e : p = c.1
  · rw [if_pos e, if_pos (by rw [e])]
  · rw [if_neg e, if_neg (by omega)]
    rfl
theorem zeros_at {m p : Int} : (zeros m).getD p.toNat 0 = 0 := by
  unfold zeros
  rw [List.getD_eq_getElem?_getD, List.getElem?_replicate]
  split <;> rfl
theorem kinds_puts {m : Int} {cs : List (Int × Int)} (h : Hist m cs) : ∀ i, i ≤ cs.length → (kN m cs i).puts = (onlyN cs i).isSome ∧ ∀ ks, onlyN cs i = some ks → ∀ p, 0 ≤ p → p < m → (p ∈ ks ↔ tx (kN m cs i) p ≠ 0)
  | 0, _ => ⟨rfl, fun ks e p _ _ => by
    cases Option.some.inj e
    refine ⟨fun z => (by cases z), fun z => absurd zeros_at z⟩⟩
  | i + 1, hi => by
    have z : cs[i]? = some cs[i] := List.getElem?_eq_getElem hi
    obtain ⟨ih1, ih2⟩ := kinds_puts h i (by omega)
    obtain ⟨d1, d2, d3⟩ := h.2.2.2 cs[i] (List.getElem_mem hi)
    have hl := (kN_inv h.1 (cs := cs) i (by omega)).1
    have nx := onlyN_next z
    rw [kN_next z]
    have tvx : (kN m cs i).tv cs[i] = tx (kN m cs i) cs[i].1 := rfl
    cases w : onlyN cs i with
    | none =>
      rw [w] at nx ih1
      have nx : onlyN cs (i + 1) = none := nx
      refine ⟨?_, fun ks e => by rw [nx] at e; cases e⟩
      rw [nx]
      show (if _ then false else (kN m cs i).puts) = false
      rw [ih1]
      split <;> rfl
    | some ks =>
      rw [w] at nx ih1
      have nx : onlyN cs (i + 1) = only1 ks cs[i] := nx
      have mem := ih2 ks w cs[i].1 d1 d2
      unfold only1 at nx
      by_cases c : cs[i].2 = 0 ∨ cs[i].1 ∈ ks
      · rw [if_pos c] at nx
        refine ⟨?_, fun ks' e => by rw [nx] at e; cases e⟩
        rw [nx]
        have q : (kN m cs i).c1 cs[i] = true := by
          unfold KS.c1
          rw [tvx]
          rcases c with c | c
          · rw [decide_eq_true c]; rfl
          · rw [decide_eq_false (mem.mp c)]; simp
        show (if (kN m cs i).c1 cs[i] = true then false else _) = false
        rw [if_pos q]
      · rw [if_neg c] at nx
        have c1 : cs[i].2 ≠ 0 := fun e => c (.inl e)
        have c2 : cs[i].1 ∉ ks := fun e => c (.inr e)
        have q : (kN m cs i).c1 cs[i] = false := by
          unfold KS.c1
          rw [tvx, decide_eq_false c1, decide_eq_true (Classical.not_not.mp fun e => c2 (mem.mpr e))]
          rfl
        refine ⟨?_, fun ks' e p p0 p1 => ?_⟩
        · rw [nx]
          show (if (kN m cs i).c1 cs[i] = true then false else (kN m cs i).puts) = true
          rw [if_neg (by rw [q]; exact Bool.false_ne_true), ih1]
          rfl
        · rw [nx] at e
          cases Option.some.inj e
          rw [tx_next hl d1 d2 p0]
          by_cases e2 : p = cs[i].1
          · rw [if_pos e2]
            exact ⟨fun _ => c1, fun _ => by rw [e2]; exact List.mem_cons_self⟩
          · rw [if_neg e2, List.mem_cons]
            exact ⟨fun q => (ih2 ks w p p0 p1).mp (q.resolve_left e2), fun q => .inr ((ih2 ks w p p0 p1).mpr q)⟩
theorem last_of {ps : List Int} {x : Int} (h : ps.drop (ps.length - 1) = [x]) : ps = ps.dropLast ++ [x] := by
  rw [List.dropLast_eq_take, ← h, List.take_append_drop]
theorem kinds_calm {m : Int} {cs : List (Int × Int)} (h : Hist m cs) : ∀ i, i ≤ cs.length → (kN m cs i).calm = (pileN cs i).isSome ∧ ∀ ps, pileN cs i = some ps → (kN m cs i).pile = ps ∧ ps.Nodup ∧ ∀ p, 0 ≤ p → p < m → (p ∈ ps ↔ tx (kN m cs i) p ≠ 0)
  | 0, _ => ⟨rfl, fun ps e => by
    cases Option.some.inj e
    exact ⟨rfl, List.nodup_nil, fun p _ _ => ⟨fun z => (by cases z), fun z => absurd zeros_at z⟩⟩⟩
  | i + 1, hi => by
    have z : cs[i]? = some cs[i] := List.getElem?_eq_getElem hi
    obtain ⟨ih1, ih2⟩ := kinds_calm h i (by omega)
    obtain ⟨d1, d2, d3⟩ := h.2.2.2 cs[i] (List.getElem_mem hi)
    have hl := (kN_inv h.1 (cs := cs) i (by omega)).1
    have nx := pileN_next z
    rw [kN_next z]
    have tvx : (kN m cs i).tv cs[i] = tx (kN m cs i) cs[i].1 := rfl
    cases w : pileN cs i with
    | none =>
      rw [w] at nx ih1
      have nx : pileN cs (i + 1) = none := nx
      refine ⟨?_, fun ks e => by rw [nx] at e; cases e⟩
      rw [nx]
      show (if _ then (kN m cs i).calm else if _ then (kN m cs i).calm else false) = false
      rw [ih1]
      split
      · rfl
      · split <;> rfl
    | some ps =>
      rw [w] at nx ih1
      have nx : pileN cs (i + 1) = pile1 ps cs[i] := nx
      obtain ⟨ep, nd, mm⟩ := ih2 ps w
      have mem := mm cs[i].1 d1 d2
      unfold pile1 at nx
      by_cases c : 0 < cs[i].2 ∧ cs[i].1 ∉ ps
      · rw [if_pos c] at nx
        have q : (kN m cs i).c2 cs[i] = true := by
          unfold KS.c2
          rw [tvx, decide_eq_false (by omega : ¬ cs[i].2 = 0), decide_eq_true (Classical.not_not.mp fun e => c.2 (mem.mpr e))]
          rfl
        refine ⟨?_, fun ps' e => ?_⟩
        · rw [nx]
          show (if (kN m cs i).c2 cs[i] = true then (kN m cs i).calm else _) = true
          rw [if_pos q, ih1]
          rfl
        · rw [nx] at e
          cases Option.some.inj e
          refine ⟨?_, ?_, fun p p0 p1 => ?_⟩
          · show (if (kN m cs i).c2 cs[i] = true then (kN m cs i).pile ++ [cs[i].1] else _) = _
            rw [if_pos q, ep]
          · exact List.nodup_append.mpr ⟨nd, by simp, fun a ha b hb => by
              have e : b = cs[i].1 := by simpa using hb
              rw [e]
              exact fun e2 => c.2 (e2 ▸ ha)⟩
          · rw [tx_next hl d1 d2 p0, List.mem_append]
            by_cases e2 : p = cs[i].1
            · rw [if_pos e2]
              exact ⟨fun _ => by omega, fun _ => .inr (by rw [e2]; exact List.mem_singleton.mpr rfl)⟩
            · rw [if_neg e2]
              exact ⟨fun q => (mm p p0 p1).mp (q.resolve_right fun z => e2 (List.mem_singleton.mp z)), fun q => .inl ((mm p p0 p1).mpr q)⟩
      · rw [if_neg c] at nx
        have q : (kN m cs i).c2 cs[i] = false := by
          rw [Bool.eq_false_iff]
          intro q
          unfold KS.c2 at q
          rw [tvx] at q
          simp only [Bool.and_eq_true, Bool.not_eq_true', decide_eq_false_iff_not, decide_eq_true_eq] at q
          exact c ⟨by omega, fun e => (mem.mp e) q.2⟩
        by_cases c2 : cs[i].2 = 0 ∧ ps.drop (ps.length - 1) = [cs[i].1]
        · rw [if_pos c2] at nx
          have q3 : (kN m cs i).c3 cs[i] = true := by
            unfold KS.c3
            rw [ep, decide_eq_true c2.1, decide_eq_true c2.2]
            rfl
          have sp := last_of c2.2
          refine ⟨?_, fun ps' e => ?_⟩
          · rw [nx]
            show (if (kN m cs i).c2 cs[i] = true then _ else if (kN m cs i).c3 cs[i] = true then (kN m cs i).calm else false) = true
            rw [if_neg (by rw [q]; exact Bool.false_ne_true), if_pos q3, ih1]
            rfl
          · rw [nx] at e
            cases Option.some.inj e
            have nd2 := nd
            rw [sp] at nd2
            obtain ⟨n1, _, n3⟩ := List.nodup_append.mp nd2
            refine ⟨?_, n1, fun p p0 p1 => ?_⟩
            · show (if (kN m cs i).c2 cs[i] = true then _ else if (kN m cs i).c3 cs[i] = true then (kN m cs i).pile.dropLast else _) = _
              rw [if_neg (by rw [q]; exact Bool.false_ne_true), if_pos q3, ep]
            · rw [tx_next hl d1 d2 p0]
              by_cases e2 : p = cs[i].1
              · rw [if_pos e2]
                exact ⟨fun q => absurd e2 (n3 p q _ (List.mem_singleton.mpr rfl)), fun q => absurd c2.1 q⟩
              · rw [if_neg e2]
                refine ⟨fun q => (mm p p0 p1).mp (by rw [sp]; exact List.mem_append_left _ q), fun q => ?_⟩
                have r := (mm p p0 p1).mpr q
                rw [sp] at r
                exact (List.mem_append.mp r).resolve_right fun z => e2 (List.mem_singleton.mp z)
        · rw [if_neg c2] at nx
          have q3 : (kN m cs i).c3 cs[i] = false := by
            rw [Bool.eq_false_iff]
            intro q
            unfold KS.c3 at q
            rw [ep] at q
            exact c2 (by simpa using q)
          refine ⟨?_, fun ps' e => by rw [nx] at e; cases e⟩
          rw [nx]
          show (if (kN m cs i).c2 cs[i] = true then _ else if (kN m cs i).c3 cs[i] = true then _ else false) = false
          rw [if_neg (by rw [q]; exact Bool.false_ne_true), if_neg (by rw [q3]; exact Bool.false_ne_true)]
/-! texts beside one another; plain ones -/
theorem zeros_add {m n : Int} (h : 0 ≤ m) (h2 : 0 ≤ n) : zeros (m + n) = zeros m ++ zeros n := by
  unfold zeros
  rw [List.replicate_append_replicate]
  congr 1
  omega
theorem play_left (b : List Int) : ∀ (cs : List (Int × Int)) (a : List Int), (∀ p ∈ cs, 0 ≤ p.1 ∧ p.1 < a.length) → play (a ++ b) cs = play a cs ++ b
  | [], a, _ => rfl
  | c :: cs, a, h => by
    obtain ⟨h0, h1⟩ := h c List.mem_cons_self
    show play (step (a ++ b) c) cs = play (step a c) cs ++ b
    have e : step (a ++ b) c = step a c ++ b := by
      unfold step
      rw [List.set_append_left _ _ (by omega)]
    rw [e]
    refine play_left b cs (step a c) fun p hp => ?_
    unfold step
    rw [List.length_set]
    exact h p (List.mem_cons_of_mem _ hp)
theorem play_right (a : List Int) {m : Int} (hm : (a.length : Int) = m) : ∀ (cs : List (Int × Int)) (b : List Int), (∀ p ∈ cs, 0 ≤ p.1) → play (a ++ b) (cs.map fun p => (m + p.1, p.2)) = a ++ play b cs
  | [], b, _ => rfl
  | c :: cs, b, h => by
    have h0 := h c List.mem_cons_self
    show play (step (a ++ b) (m + c.1, c.2)) _ = a ++ play (step b c) cs
    have e : step (a ++ b) (m + c.1, c.2) = a ++ step b c := by
      unfold step
      rw [List.set_append_right _ _ (by show a.length ≤ (m + c.1).toNat; omega)]
      congr 2
      show (m + c.1).toNat - a.length = c.1.toNat
      omega
    rw [e]
    exact play_right a hm cs (step b c) fun p hp => h p (List.mem_cons_of_mem _ hp)
theorem play_beside {m n : Int} {cs bs : List (Int × Int)} (h1 : Hist m cs) (h2 : Hist n bs) : play (zeros (m + n)) (cs ++ bs.map fun p => (m + p.1, p.2)) = play (zeros m) cs ++ play (zeros n) bs := by
  rw [zeros_add (by have := h1.1; omega) (by have := h2.1; omega)]
  show List.foldl step _ _ = _
  rw [List.foldl_append]
  show play (play (zeros m ++ zeros n) cs) _ = _
  rw [play_left _ cs _ fun p hp => ⟨(h1.2.2.2 p hp).1, by rw [zeros_len h1.1]; exact (h1.2.2.2 p hp).2.1⟩]
  exact play_right _ (by rw [play_len]; exact zeros_len h1.1) bs _ fun p hp => (h2.2.2.2 p hp).1
theorem enumC_cons (n : Nat) (x : Int) (w : List Int) : enumC n (x :: w) = ((n : Int), x) :: enumC (n + 1) w := by
  unfold enumC
  rw [List.mapIdx_cons]
  have e : (fun (i : Nat) (x : Int) => (((i + 1 + n : Nat) : Int), x)) = fun i x => (((i + (n + 1) : Nat) : Int), x) := by
    funext i x
    rw [show i + 1 + n = i + (n + 1) by omega]
  rw [e, Nat.zero_add]
theorem play_plain : ∀ (w a : List Int), play (a ++ List.replicate w.length 0) (enumC a.length w) = a ++ w
  | [], a => rfl
  | x :: w, a => by
    rw [enumC_cons]
    show play (step (a ++ List.replicate (w.length + 1) 0) ((a.length : Int), x)) _ = _
    have e : step (a ++ List.replicate (w.length + 1) 0) ((a.length : Int), x) = (a ++ [x]) ++ List.replicate w.length 0 := by
      unfold step
      rw [List.set_append_right _ _ (by show a.length ≤ ((a.length : Nat) : Int).toNat; omega)]
      show a ++ (List.replicate (w.length + 1) 0).set (((a.length : Nat) : Int).toNat - a.length) x = _
      rw [show ((a.length : Nat) : Int).toNat - a.length = 0 by omega, List.replicate_succ, List.append_assoc]
      rfl
    rw [e]
    have z := play_plain w (a ++ [x])
    rw [List.length_append, List.append_assoc] at z
    rw [List.append_assoc]
    refine z.trans ?_
    rw [List.append_assoc]
    rfl
end K2

namespace Ph
open PySem PySem.Spec PyProof.Rows L2
section
variable {K : PySem.W.Frag} {o : List Addr} {u : Addr} {iu : Nat} {ds : List (Option PyData)} {d : PyData} {R : PyData → Prop} {k l : Nat}
theorem set_get_ne {σ : L2.St} {i j : Nat} {x : Option V} (h : i ≠ j) : (σ.set i x)[j]? = σ[j]? := List.getElem?_set_ne h
/-- i, j = two values, drawn -/
theorem su_par {i j : Nat} {ta : TA} {t : TS} {S : PyData → PyData → Prop} (h : EvAU K o u iu ta ds k (fun es => ∃ a b, es = [a, b] ∧ S a b)) (hi : i ≠ iu) (hj : j ≠ iu) (hu : ∀ a b, S a b → SrU K o u iu t ((ds.set i (some a)).set j (some b)) l R) : SrU K o u iu (tSeq (tPar i j ta) t) ds (k + l) R := fun D σ H n E W A hn q =>
  h σ H n E W A (by omega) _ fun vs es H1 hs D1 xs => by
    obtain ⟨a, b, rfl, s⟩ := hs
    cases xs with
    | @cons v1 _ _ _ h1 t1 =>
      cases t1 with
      | @cons v2 _ _ _ h2 t2 =>
        cases t2
        refine ⟨v1, v2, rfl, ?_⟩
        have A1 := A.next D1
        refine hu a b s D _ H1 (n + k) (((E.mono D1.ex).set h1 i).set h2 j) D1.ow ⟨A1.mem, by rw [set_get_ne hj, set_get_ne hi]; exact A1.slot, A1.urn⟩ (by omega) fun v d H2 r D2 x => q v d H2 r (by rw [← Nat.add_assoc]; exact D1.trans D2) x
/-- behind the last draw -/
theorem su_mut {t : TS} (sc : scalD d = true) (h : MvR K [] t [] ds d) : SrU K [u] u iu t ds 0 (fun x => x = d) := fun D σ H n E W A hn q => by
  refine h H D [] σ H ⟨by rw [hide_nil]; exact Same.refl _, own0, by rw [List.append_nil, hide_nil]; exact E.mono hide_ex, .nil, List.nodup_nil⟩ fun v H' e W' x => ?_
  rw [hide_nil] at e x
  exact q v d H' rfl (Dr.of e W A.urn) (dd_flat x sc)
end
end Ph

namespace K2
open PySem PySem.Spec PyProof.Rows L2 Ph
section
variable {P : Program} {w : World} {K : PySem.W.Frag} {mg : Str → Option Value} {base : Heap}
abbrev s__law_right : Stmt := top 28
abbrev N__law_right : List Str := ["urn", "past", "calm", "heard", "due", "own", "rows", "text", "place", "letter", "k", "change", "both", "last", "other", "word"]
theorem sc__law_right : FnScope N__law_right ["urn"] (defScope s__law_right) := ⟨rfl, rfl, rfl, by decide +kernel, rfl, by decide +kernel, by decide +kernel⟩

abbrev R_calm : List PyData → PyData → Prop := fun as d => ∃ m cs, d = his m cs ∧ Good m cs
theorem good_hist {m : Int} {cs : List (Int × Int)} (h : Good m cs) : Hist m cs := ⟨h.1, by have := h.2.1; omega, by have := h.2.2.1; omega, fun p hp => ⟨(h.2.2.2 p hp).1, (h.2.2.2 p hp).2.1, (h.2.2.2 p hp).2.2.1⟩⟩
abbrev lastT (m : Int) (cs : List (Int × Int)) : List Int := play (zeros m) cs
abbrev H5 (m : Int) (cs : List (Int × Int)) : List PyData := [.bool true, .list (rows (zeros m) cs (cs.length + 1)), nums (lastT m cs), nums ((lastT m cs).filter fun n => decide (0 < n)), .list [.bool (onlyN cs cs.length).isSome, .bool (pileN cs cs.length).isSome]]
def fr (m : Int) (cs : List (Int × Int)) (i : Nat) : List PyData := (List.range i).map fun k => nums (play (zeros m) (cs.take (k + 1)))
def blk (m : Int) (cs : List (Int × Int)) : List PyData := H5 m cs ++ fr m cs ((enumD (cs.map chg)).take 3).length ++ [.list [.str "place", .int m]]
theorem fr_next (m : Int) (cs : List (Int × Int)) (i : Nat) : fr m cs (i + 1) = fr m cs i ++ [nums (play (zeros m) (cs.take (i + 1)))] := by
  unfold fr
  rw [List.range_succ, List.map_append]
  rfl
theorem fr_len (m : Int) (cs : List (Int × Int)) (i : Nat) : (fr m cs i).length = i := by
  unfold fr
  rw [List.length_map, List.length_range]
theorem enum3_at {cs : List (Int × Int)} {i : Nat} {e : PyData} (h : ((enumD (cs.map chg)).take 3)[i]? = some e) : i < 3 ∧ ∃ c, cs[i]? = some c ∧ e = .tuple [.int (i : Nat), chg c] := by
  rw [List.getElem?_take] at h
  split at h
  · rename_i c3
    refine ⟨c3, ?_⟩
    unfold enumD at h
    rw [List.getElem?_mapIdx, List.getElem?_map] at h
    cases z : cs[i]? with
    | none => rw [z] at h; cases h
    | some c =>
      rw [z] at h
      exact ⟨c, rfl, (Option.some.inj h).symm⟩
  · cases h
theorem cut3 {α : Type} (l : List α) : (l.drop (HT.sIx l.length 0 none)).take (HT.sIx l.length l.length (some 3) - HT.sIx l.length 0 none) = l.take 3 := by
  rw [sIx_int _ _ (by decide : (0 : Int) ≤ 3), show HT.sIx l.length 0 none = 0 from rfl, List.drop_zero, Nat.sub_zero]
  by_cases c : (3 : Int).toNat ≤ l.length
  · rw [Nat.min_eq_left c]
    rfl
  · rw [Nat.min_eq_right (by omega), List.take_length, List.take_of_length_le (by show l.length ≤ 3; have : (3 : Int).toNat = 3 := rfl; omega)]
theorem rows_at {m : Int} {cs : List (Int × Int)} {k : Nat} (h : k ≤ cs.length) : atI (rows (zeros m) cs (cs.length + 1)) ((k : Nat) : Int) = some (nums (play (zeros m) (cs.take k))) := by
  refine atI_nat ?_
  unfold rows
  rw [List.getElem?_map, List.getElem?_range (by omega)]
  rfl
theorem rows_last {m : Int} {cs : List (Int × Int)} : atI (rows (zeros m) cs (cs.length + 1)) (((rows (zeros m) cs (cs.length + 1)).length : Nat) - 1) = some (nums (lastT m cs)) := by
  rw [rows_len, show (((cs.length + 1 : Nat) : Int) - 1) = ((cs.length : Nat) : Int) by omega, rows_at (Nat.le_refl _), List.take_length]
theorem blk_len (m : Int) (cs : List (Int × Int)) : (blk m cs).length ≤ 1000 := by
  unfold blk
  rw [List.length_append, List.length_append, fr_len, List.length_take]
  show 5 + min 3 _ + 1 ≤ 1000
  omega
theorem okBlk {m : Int} {cs : List (Int × Int)} (g : Good m cs) : ∀ e ∈ blk m cs, okD 4 e := fun e he => by
  have t := good_hist g
  have zl := zeros_len t.1
  have m2 := t.2.1
  have c3 := t.2.2.1
  have row : ∀ bs : List (Int × Int), okD 3 (nums (play (zeros m) bs)) := fun bs => ok_nums 2 (by rw [play_len]; omega)
  unfold blk at he
  rcases List.mem_append.mp he with he | he
  · rcases List.mem_append.mp he with he | he
    · simp only [List.mem_cons, List.not_mem_nil, or_false] at he
      rcases he with rfl | rfl | rfl | rfl | rfl
      · exact okD_scal rfl
      · refine ⟨by rw [rows_len]; omega, fun e he => ?_⟩
        unfold rows at he
        obtain ⟨j, _, rfl⟩ := List.mem_map.mp he
        exact row _
      · exact ok_nums 3 (by rw [play_len]; omega)
      · refine ok_nums 3 (Nat.le_trans (List.length_filter_le ..) (by rw [play_len]; omega))
      · exact ok_flat 3 (by show 2 ≤ 1000000; decide) (fun e he => by
          simp only [List.mem_cons, List.not_mem_nil, or_false] at he
          rcases he with rfl | rfl <;> rfl)
    · unfold fr at he
      obtain ⟨j, _, rfl⟩ := List.mem_map.mp he
      exact ok_nums 3 (by rw [play_len]; omega)
  · cases List.mem_singleton.mp he
    exact ok_flat 3 (by show 2 ≤ 1000000; decide) (fun e he => by
      simp only [List.mem_cons, List.not_mem_nil, or_false] at he
      rcases he with rfl | rfl <;> rfl)
theorem enumC_mem {w : List Int} {p : Int × Int} (h : p ∈ enumC 0 w) : 0 ≤ p.1 ∧ p.1 < w.length ∧ p.2 ∈ w := by
  obtain ⟨j, hj⟩ := List.getElem?_of_mem h
  unfold enumC at hj
  rw [List.getElem?_mapIdx] at hj
  cases z : w[j]? with
  | none => rw [z] at hj; cases hj
  | some x =>
    rw [z] at hj
    have e := Option.some.inj hj
    rw [← e]
    have lt := (List.getElem?_eq_some_iff.mp z).1
    exact ⟨by show (0 : Int) ≤ ((j + 0 : Nat) : Int); omega, by show ((j + 0 : Nat) : Int) < w.length; omega, List.mem_of_getElem? z⟩
theorem enumC_len (w : List Int) : (enumC 0 w).length = w.length := by
  unfold enumC
  rw [List.length_mapIdx]
theorem plain_hist {w : List Int} (l : w.length ≤ 1000) (h : ∀ x ∈ w, 0 < x) : Hist (if (w.length : Int) > 1 then w.length else 1) (enumC 0 w) := by
  refine ⟨by split <;> omega, by split <;> omega, by rw [enumC_len]; exact l, fun p hp => ?_⟩
  obtain ⟨q1, q2, q3⟩ := enumC_mem hp
  have q4 := h _ q3
  exact ⟨q1, by split <;> omega, by omega⟩
theorem plain_play {w : List Int} : play (zeros (if (w.length : Int) > 1 then w.length else 1)) (enumC 0 w) = if w.length > 0 then w else [0] := by
  cases w with
  | nil => rfl
  | cons x w =>
    have e : zeros (if ((x :: w).length : Int) > 1 then (x :: w).length else 1) = List.replicate (x :: w).length 0 := by
      unfold zeros
      congr 1
      rw [List.length_cons]
      split <;> omega
    rw [e, if_pos (by rw [List.length_cons]; omega)]
    exact play_plain (x :: w) []
theorem ok__law_right {f : Addr} {fd : FuncData} (F : Fun K "_law_right" "_law_right" s__law_right f fd) (T : Blt mg) (C__law_past : Cal P w K mg base "_law_past" 2 ["urn", "most", "letters_so"] (spU K 2 300 pre_past R_past)) (C__law_calm : Cal P w K mg base "_law_calm" 3 ["urn"] (spU K 0 100 (fun as => as = []) R_calm)) (C_reads : Cal P w K mg base "reads" 1 ["text"] (spD K 1 R_reads)) (C_text_behind : Cal P w K mg base "text_behind" 1 ["history"] (spD K 1 R_text_behind)) (C_beside : Cal P w K mg base "beside" 1 ["one", "other"] (spD K 2 R_beside)) (C_plain : Cal P w K mg base "plain" 1 ["word"] (spD K 1 R_plain)) (C__law_heard : Cal P w K mg base "_law_heard" 4 ["text", "change"] (spD K 2 R__law_heard)) (C_puts_only : Cal P w K mg base "puts_only" 1 ["history"] (spD K 1 R_puts_only)) (C_takes_back : Cal P w K mg base "takes_back" 1 ["history"] (spD K 1 R_takes_back)) (C_is_history : Cal P w K mg base "is_history" 5 ["thing"] (spD K 1 R_is_history)) (C_texts_along : Cal P w K mg base "texts_along" 4 ["history"] (spD K 1 R_texts_along)) (C__law_kinds : Cal P w K mg base "_law_kinds" 1 ["past"] (spD K 1 R__law_kinds)) (C__law_same : Cal P w K mg base "_law_same" 6 ["got", "goal"] (spD K 2 (R_same 6))) : FnOk P w K mg base CX0 20 f fd ["urn"] (spU K 0 500 (fun as => as = []) fun _ d => d = .bool true) := by
  refine fn_draw F sc__law_right rfl fun cdv A outer s H E hr => ?_
  refine ⟨_, (pss_cons (ps_par (i := 1) (j := 2) (by rfl) sc__law_right.nd rfl rfl (by decide) rfl rfl (pa_cons (pe_cal C__law_past (hr.mono (by decide)) (by rfl) (pa_cons (pv 0) (pa_cons pe_int (pa_cons pe_int pa_nil)))) (pa_cons (pe_cal C__law_calm (hr.mono (by decide)) (by rfl) (pa_cons (pv 0) pa_nil)) pa_nil)) (by rfl))
      (pss_cons (ps_par (i := 3) (j := 4) (by rfl) sc__law_right.nd rfl rfl (by decide) rfl rfl (pa_cons (pe_lst pa_nil) (pa_cons (pe_lst pa_nil) pa_nil)) (by rfl))
      (pss_cons (ps_for PassesOwn.never rfl (pi_tup (pe_tup (pa_cons (pv 1) (pa_cons (pv 2) pa_nil)))) (pg_name (i := 5) sc__law_right.nd rfl (Or.inl rfl)) (pss_cons (ps_par (i := 6) (j := 7) (by rfl) sc__law_right.nd rfl rfl (by decide) rfl rfl (pa_cons (pe_lst (pa_cons (pe_op op_repA (pe_tup (pa_cons pe_int pa_nil)) (pe_ix ix_tup (pv 5) pe_int (fun _ _ => rfl))) pa_nil)) (pa_cons (pe_op op_rep (pe_lst (pa_cons pe_int pa_nil)) (pe_ix ix_tup (pv 5) pe_int (fun _ _ => rfl))) pa_nil)) (by rfl))
      (pss_cons (ps_for PassesOwn.never rfl (pi_tup (pe_ix ix_tup (pv 5) pe_int (fun _ _ => rfl))) (pg_tup rfl (pgs_cons (pg_name (i := 8) sc__law_right.nd rfl (Or.inl rfl)) (pgs_cons (pg_name (i := 9) sc__law_right.nd rfl (Or.inl rfl)) pgs_nil))) (pss_cons (ps_asg (pv 9) (pg_sub (pv 7) (pv 8) set_list))
      (pss_one (ps_expr (pe_bm PySem.F.plainAttrs_list PySem.F.slot_list_append PySem.F.type_list_append mt_append (pv 6) (pa_cons (pe_callTy call_tuple_of (by rfl) T.tuple (by decide +kernel) (pa_cons (pv 7) pa_nil)) pa_nil))))))
      (pss_cons (ps_set (i := 3) sc__law_right.nd rfl (Or.inl rfl) (pe_op op_cat (pv 3) (pe_lst (pa_cons (pe_cal C_is_history (hr.mono (by decide)) (by rfl) (pa_cons (pv 5) pa_nil)) (pa_cons (pe_cal C_texts_along (hr.mono (by decide)) (by rfl) (pa_cons (pv 5) pa_nil)) (pa_cons (pe_cal C_text_behind (hr.mono (by decide)) (by rfl) (pa_cons (pv 5) pa_nil)) (pa_cons (pe_cal C_reads (hr.mono (by decide)) (by rfl) (pa_cons (pe_ix ix_list (pv 6) (pe_op op_sub (pe_callB call_len_seq (by rfl) T.len PySem.boot_len (pa_cons (pv 6) pa_nil)) pe_int) (fun _ _ => rfl)) pa_nil)) (pa_cons (pe_lst (pa_cons (pe_cal C_puts_only (hr.mono (by decide)) (by rfl) (pa_cons (pv 5) pa_nil)) (pa_cons (pe_cal C_takes_back (hr.mono (by decide)) (by rfl) (pa_cons (pv 5) pa_nil)) pa_nil))) pa_nil))))))))
      (pss_cons (ps_set (i := 4) sc__law_right.nd rfl (Or.inl rfl) (pe_op op_cat (pv 4) (pe_lst (pa_cons pe_bl (pa_cons (pv 6) (pa_cons (pe_ix ix_list (pv 6) (pe_op op_sub (pe_callB call_len_seq (by rfl) T.len PySem.boot_len (pa_cons (pv 6) pa_nil)) pe_int) (fun _ _ => rfl)) (pa_cons (pe_callTy call_tuple_of (by rfl) T.tuple (by decide +kernel) (pa_cons (pe_lc (own := [("letter", 9)]) (g := (gName 9)) (tt := (tTest (tOp _ (tVar 9) (tC (.int 0))))) (te := (tVar 9)) rfl sc__law_right.nd (pi_list (pv 7)) (blkOk_by (N := N__law_right) (sc := defScope s__law_right) (by decide +kernel)) (fun _ _ _ _ _ => by exact (pg_name (i := 9) sc__law_right.nd rfl (Or.inl rfl))) (fun _ _ _ _ _ => by exact (pts_one (pt_cmpR op_gt (pv 9) pe_int (nomark _)))) (fun _ _ _ _ _ => by exact (pv 9))) pa_nil)) (pa_cons (pe_cal C__law_kinds (hr.mono (by decide)) (by rfl) (pa_cons (pv 5) pa_nil)) pa_nil))))))))
      (pss_cons (ps_for PassesOwn.never rfl (pi_list (pe_slice sl_list (pe_enLst rfl (by rfl) T.list (pen (by rfl) T.enumerate (pe_ix ix_tup (pv 5) pe_int (fun _ _ => rfl)))) po_none (po_some pe_int))) (pg_tup rfl (pgs_cons (pg_name (i := 10) sc__law_right.nd rfl (Or.inl rfl)) (pgs_cons (pg_name (i := 11) sc__law_right.nd rfl (Or.inl rfl)) pgs_nil))) (pss_cons (ps_expr (pe_bm PySem.F.plainAttrs_list PySem.F.slot_list_append PySem.F.type_list_append mt_append (pv 3) (pa_cons (pe_cal C__law_heard (hr.mono (by decide)) (by rfl) (pa_cons (pe_ix ix_list (pv 6) (pv 10) (fun _ _ => rfl)) (pa_cons (pv 11) pa_nil))) pa_nil)))
      (pss_one (ps_expr (pe_bm PySem.F.plainAttrs_list PySem.F.slot_list_append PySem.F.type_list_append mt_append (pv 4) (pa_cons (pe_ix ix_list (pv 6) (pe_op op_add (pv 10) pe_int) (fun _ _ => rfl)) pa_nil))))))
      (pss_cons (ps_expr (pe_bm PySem.F.plainAttrs_list PySem.F.slot_list_append PySem.F.type_list_append mt_append (pv 3) (pa_cons (pe_cal C__law_heard (hr.mono (by decide)) (by rfl) (pa_cons (pe_ix ix_list (pv 6) pe_int (fun _ _ => rfl)) (pa_cons (pe_tup (pa_cons (pe_ix ix_tup (pv 5) pe_int (fun _ _ => rfl)) (pa_cons pe_int pa_nil))) pa_nil))) pa_nil)))
      (pss_one (ps_expr (pe_bm PySem.F.plainAttrs_list PySem.F.slot_list_append PySem.F.type_list_append mt_append (pv 4) (pa_cons (pe_lst (pa_cons pe_str (pa_cons (pe_ix ix_tup (pv 5) pe_int (fun _ _ => rfl)) pa_nil))) pa_nil)))))))))))
      (pss_cons (ps_set (i := 12) sc__law_right.nd rfl (Or.inl rfl) (pe_cal C_beside (hr.mono (by decide)) (by rfl) (pa_cons (pv 1) (pa_cons (pv 2) pa_nil))))
      (pss_cons (ps_set (i := 3) sc__law_right.nd rfl (Or.inl rfl) (pe_op op_cat (pv 3) (pe_lst (pa_cons (pe_ix ix_tup (pv 12) pe_int (fun _ _ => rfl)) (pa_cons (pe_callB call_len_seq (by rfl) T.len PySem.boot_len (pa_cons (pe_ix ix_tup (pv 12) pe_int (fun _ _ => rfl)) pa_nil)) (pa_cons (pe_cal C_text_behind (hr.mono (by decide)) (by rfl) (pa_cons (pv 12) pa_nil)) (pa_cons (pe_cal C_text_behind (hr.mono (by decide)) (by rfl) (pa_cons (pe_cal C_beside (hr.mono (by decide)) (by rfl) (pa_cons (pv 2) (pa_cons (pv 1) pa_nil))) pa_nil)) pa_nil)))))))
      (pss_cons (ps_par (i := 13) (j := 14) (by rfl) sc__law_right.nd rfl rfl (by decide) rfl rfl (pa_cons (pe_cal C_text_behind (hr.mono (by decide)) (by rfl) (pa_cons (pv 1) pa_nil)) (pa_cons (pe_cal C_text_behind (hr.mono (by decide)) (by rfl) (pa_cons (pv 2) pa_nil)) pa_nil)) (by rfl))
      (pss_cons (ps_set (i := 4) sc__law_right.nd rfl (Or.inl rfl) (pe_op op_cat (pv 4) (pe_lst (pa_cons (pe_op op_add (pe_ix ix_tup (pv 1) pe_int (fun _ _ => rfl)) (pe_ix ix_tup (pv 2) pe_int (fun _ _ => rfl))) (pa_cons (pe_op op_add (pe_callB call_len_seq (by rfl) T.len PySem.boot_len (pa_cons (pe_ix ix_tup (pv 1) pe_int (fun _ _ => rfl)) pa_nil)) (pe_callB call_len_seq (by rfl) T.len PySem.boot_len (pa_cons (pe_ix ix_tup (pv 2) pe_int (fun _ _ => rfl)) pa_nil))) (pa_cons (pe_op op_catA (pv 13) (pv 14)) (pa_cons (pe_op op_catA (pv 14) (pv 13)) pa_nil)))))))
      (pss_cons (ps_set (i := 15) sc__law_right.nd rfl (Or.inr rfl) (pe_cal C_reads (hr.mono (by decide)) (by rfl) (pa_cons (pv 13) pa_nil)))
      (pss_cons (ps_set (i := 3) sc__law_right.nd rfl (Or.inl rfl) (pe_op op_cat (pv 3) (pe_lst (pa_cons (pe_cal C_plain (hr.mono (by decide)) (by rfl) (pa_cons (pv 15) pa_nil)) (pa_cons (pe_cal C_text_behind (hr.mono (by decide)) (by rfl) (pa_cons (pe_cal C_plain (hr.mono (by decide)) (by rfl) (pa_cons (pv 15) pa_nil)) pa_nil)) pa_nil)))))
      (pss_cons (ps_set (i := 4) sc__law_right.nd rfl (Or.inl rfl) (pe_op op_cat (pv 4) (pe_lst (pa_cons (pe_tup (pa_cons (pe_callB (call_max2 rfl) (by rfl) T.max (by decide +kernel) (pa_cons (pe_callB call_len_seq (by rfl) T.len PySem.boot_len (pa_cons (pv 15) pa_nil)) (pa_cons pe_int pa_nil))) (pa_cons (pe_callTy call_tuple_of (by rfl) T.tuple (by decide +kernel) (pa_cons (pe_lc (own := [("k", 10)]) (g := (gName 10)) (tt := tYes) (te := (tTup (tCons (tVar 10) (tCons (tOp (rIxT K) (tVar 15) (tVar 10)) tNil)))) rfl sc__law_right.nd (pi_range1 rfl T.range (pa_cons (pe_callB call_len_seq (by rfl) T.len PySem.boot_len (pa_cons (pv 15) pa_nil)) pa_nil)) (blkOk_by (N := N__law_right) (sc := defScope s__law_right) (by decide +kernel)) (fun _ _ _ _ _ => by exact (pg_name (i := 10) sc__law_right.nd rfl (Or.inl rfl))) (fun _ _ _ _ _ => by exact pts_nil) (fun _ _ _ _ _ => by exact (pe_tup (pa_cons (pv 10) (pa_cons (pe_ix ix_tup (pv 15) (pv 10) (fun _ _ => rfl)) pa_nil))))) pa_nil)) pa_nil))) (pa_cons (pe_ifExp (pt_cmpR op_gt (pe_callB call_len_seq (by rfl) T.len PySem.boot_len (pa_cons (pv 15) pa_nil)) pe_int (nomark _)) (pv 15) (pe_tup (pa_cons pe_int pa_nil))) pa_nil)))))
      (pss_one (ps_ret (pe_cal C__law_same (hr.mono (by decide)) (by rfl) (pa_cons (pv 3) (pa_cons (pv 4) pa_nil))))))))))))))), fun u as hl hp => ?_⟩
  subst hp
  refine su_more (su_par (S := fun a b => (∃ m cs, a = his m cs ∧ Good m cs) ∧ ∃ m cs, b = his m cs ∧ Good m cs) (k := 400) (l := 0) ?d0 (by decide) (by decide) fun a b hs => ?_) (by decide)
  case d0 =>
    have z := eau_cons (K := K) (o := [u]) (u := u) (iu := 0) (ds := none :: ([] : List PyData).map some ++ List.replicate (N__law_right.length - (([] : List PyData).length + 1)) none) (eu_call (E := E0) (m := 2) (k := 300) (pre := pre_past) (Rf := R_past) (ea_cons (ev_int (i := 10)) (ea_cons (ev_int (i := 3)) ea_nil)) rfl ⟨10, 3, rfl, by decide, by decide, by decide, by decide⟩) (eau_cons (eu_call (E := E0) (m := 0) (k := 100) (pre := fun as => as = []) (Rf := R_calm) ea_nil rfl rfl) eau_nil)
    exact fun σ H n E W A hn Q q => z σ H n E W A hn Q fun vs es H2 s D x => q vs es H2 (by
      obtain ⟨d, r, rfl, ha, d2, r2, rfl, hb, rfl⟩ := s
      exact ⟨d, d2, rfl, ha, hb⟩) D x
  obtain ⟨⟨m1, cs1, rfl, g1⟩, m2, cs2, rfl, g2⟩ := hs
  have t1 := good_hist g1
  have t2 := good_hist g2
  refine su_imp (su_mut (d := .bool true) rfl ?_) fun d h => h
  refine mr_seq (mn_par2 (en_list fun O => ef_lst ea_nil (by show 0 ≤ sizeLine; decide)) (fun O => ef_lst ea_nil (by show 0 ≤ sizeLine; decide)) (fun x h => by cases h) (fun x h => by cases h) (by decide) (by show 3 < 16; decide) (by show 4 < 16; decide)) ?_
  refine mr_seq (mn_for (es := [his m1 cs1, his m2 cs2]) (fun i => [(4, .l (match i with | 0 => [] | 1 => blk m1 cs1 | _ => blk m1 cs1 ++ blk m2 cs2)), (3, .l (match i with | 0 => [] | 1 => blk m1 cs1 | _ => blk m1 cs1 ++ blk m2 cs2))])
    (fun _ => [none, some (his m1 cs1), some (his m2 cs2), none, none, none, none, none, none, none, none, none, none, none, none, none]) (fun O => ei_tup (ev_tup (ea_cons (ev_var (by rfl)) (ea_cons (ev_var (by rfl)) ea_nil)) (by show 2 ≤ sizeLine; decide))) fun i e he => ?_) ?_
  · obtain ⟨m, cs, D, rfl, g, lD, eD, eD2⟩ : ∃ m cs D, e = his m cs ∧ Good m cs ∧ D.length ≤ 1000 ∧ (match i with | 0 => [] | 1 => blk m1 cs1 | _ => blk m1 cs1 ++ blk m2 cs2 : List PyData) = D ∧ (match i + 1 with | 0 => [] | 1 => blk m1 cs1 | _ => blk m1 cs1 ++ blk m2 cs2 : List PyData) = D ++ blk m cs := by
      match i, he with
      | 0, he =>
        cases Option.some.inj he
        exact ⟨m1, cs1, [], rfl, g1, by decide, rfl, rfl⟩
      | 1, he =>
        cases Option.some.inj he
        exact ⟨m2, cs2, blk m1 cs1, rfl, g2, blk_len _ _, rfl, rfl⟩
      | i + 2, he => simp at he
    rw [eD, eD2]
    have t := good_hist g
    obtain ⟨a1, a2, a3, a4⟩ := t
    refine ⟨_, [5], gs_name (by simp), by (intro x h; simp [List.eraseIdx] at h; first | (subst h; simp; done) | (cases h with | inl h => (subst h; simp) | inr h => (subst h; simp)) | (cases h with | inl h => (subst h; simp) | inr h => (cases h with | inl h => (subst h; simp) | inr h => (subst h; simp))) | (cases h with | inl h => (subst h; simp) | inr h => (cases h with | inl h => (subst h; simp) | inr h => (cases h with | inl h => (subst h; simp) | inr h => (subst h; simp))))), ?_⟩
    refine mn_seq (mn_par2 (c1 := .l [nums (zeros m)]) (es := (zeros m).map PyData.int) (en_list fun O => ?r1) (fun O => ?x1) (by intro x h; simp [List.eraseIdx] at h; first | (subst h; simp; done) | (cases h with | inl h => (subst h; simp) | inr h => (subst h; simp)) | (cases h with | inl h => (subst h; simp) | inr h => (cases h with | inl h => (subst h; simp) | inr h => (subst h; simp))) | (cases h with | inl h => (subst h; simp) | inr h => (cases h with | inl h => (subst h; simp) | inr h => (cases h with | inl h => (subst h; simp) | inr h => (subst h; simp))))) (by intro x h; simp [List.eraseIdx] at h; first | (subst h; simp; done) | (cases h with | inl h => (subst h; simp) | inr h => (subst h; simp)) | (cases h with | inl h => (subst h; simp) | inr h => (cases h with | inl h => (subst h; simp) | inr h => (subst h; simp))) | (cases h with | inl h => (subst h; simp) | inr h => (cases h with | inl h => (subst h; simp) | inr h => (cases h with | inl h => (subst h; simp) | inr h => (subst h; simp))))) (by decide) (by show 6 < 16; decide) (by show 7 < 16; decide)) ?_
    case r1 =>
      refine ef_lst (ea_cons (ev_to (ev_op (ev_tup (ea_cons ev_int ea_nil) (by show 1 ≤ sizeLine; decide)) (ev_op (ev_var (by rfl)) ev_int (od_ixT (d := .int m) rfl)) (od_repA (by simp) a1 a2 (by show 1 ≤ 1000; decide))) ?_) ea_nil) (by show 1 ≤ sizeLine; decide)
      rw [flat_one]
      unfold zeros nums
      rw [List.map_replicate]
    case x1 =>
      have e0 : (List.replicate m.toNat [PyData.int 0]).flatten = (zeros m).map PyData.int := by
        rw [flat_one]
        unfold zeros
        rw [List.map_replicate]
      rw [← e0]
      exact ef_rep (n := m) (ev_lst (ea_cons (ev_int (i := 0)) ea_nil) (by show 1 ≤ sizeLine; decide)) (ev_op (ev_var (by rfl)) (ev_int (i := 0)) (od_ixT (d := .int m) rfl)) (by omega) (by omega) (by show 1 * m.toNat ≤ sizeLine; rw [sizeLine_eq]; omega)
    have zl := zeros_len a1
    refine mn_seq (M1 := [(7, .l ((lastT m cs).map PyData.int)), (6, .l (rows (zeros m) cs (cs.length + 1))), (4, .l D), (3, .l D)]) (ds1 := [none, some (his m1 cs1), some (his m2 cs2), none, none, some (his m cs), none, none, none, none, none, none, none, none, none, none]) (mn_to (mn_for (es := cs.map chg) (fun i => [(7, .l ((play (zeros m) (cs.take i)).map PyData.int)), (6, .l (rows (zeros m) cs (i + 1))), (4, .l D), (3, .l D)]) (fun _ => [none, some (his m1 cs1), some (his m2 cs2), none, none, some (his m cs), none, none, none, none, none, none, none, none, none, none]) (fun O => ei_tup (ev_op (ev_var (by rfl)) ev_int (od_ixT (d := .tuple (cs.map chg)) rfl))) fun i e he => ?_) (by rw [List.length_map, List.take_length]) rfl) ?_
    · obtain ⟨c, z, rfl⟩ := chg_at he
      have hi : i < cs.length := (List.getElem?_eq_some_iff.mp z).1
      obtain ⟨d1, d2, d3⟩ := a4 c (List.mem_of_getElem? z)
      refine ⟨_, [8, 9], gs_two (by simp) (by simp), by (intro x h; simp [List.eraseIdx] at h; first | (subst h; simp; done) | (cases h with | inl h => (subst h; simp) | inr h => (subst h; simp)) | (cases h with | inl h => (subst h; simp) | inr h => (cases h with | inl h => (subst h; simp) | inr h => (subst h; simp))) | (cases h with | inl h => (subst h; simp) | inr h => (cases h with | inl h => (subst h; simp) | inr h => (cases h with | inl h => (subst h; simp) | inr h => (subst h; simp))))), ?_⟩
      rw [rows_next _ _ (i + 1), play_next _ _ z]
      refine mn_seq (mn_item (k := 0) (n := c.1) (j := c.1.toNat) (e := .int c.2) rfl (em_pure fun O => (ev_var (by rfl))) (em_pure fun O => (ev_var (by rfl))) (ixN_in d1 (by rw [List.length_map, play_len, zl]; exact d2))) ?_
      have es : ((play (zeros m) (cs.take i)).map PyData.int).set c.1.toNat (.int c.2) = (step (play (zeros m) (cs.take i)) c).map PyData.int := by
        unfold step
        rw [List.map_set]
      rw [es]
      refine mn_to (mn_forget 8 (mn_forget 9 (mn_append (k := 1) (e := nums (step (play (zeros m) (cs.take i)) c)) rfl ?h ?l))) rfl rfl
      case h => exact em_full (ev_cb (ea_cons (ev_var (by rfl)) ea_nil) cb_tupL) fz_nums
      case l => rw [rows_len, sizeLine_eq]; omega
    have lx : (lastT m cs).length ≤ 1000 := by rw [play_len]; omega
    refine mn_seq (M1 := [(3, .l (D ++ H5 m cs)), (4, .l D)]) (ds1 := [none, some (his m1 cs1), some (his m2 cs2), none, none, some (his m cs), some (.list (rows (zeros m) cs (cs.length + 1))), some (.list ((lastT m cs).map PyData.int)), none, none, none, none, none, none, none, none]) (mn_to (mn_give (k := 1) (mn_give (k := 2) (mn_more (k := 3) (i := 3) (es2 := H5 m cs) rfl ?g1 ?l1 (by intro x h; simp [List.eraseIdx] at h; first | (subst h; simp; done) | (cases h with | inl h => (subst h; simp) | inr h => (subst h; simp)) | (cases h with | inl h => (subst h; simp) | inr h => (cases h with | inl h => (subst h; simp) | inr h => (subst h; simp))) | (cases h with | inl h => (subst h; simp) | inr h => (cases h with | inl h => (subst h; simp) | inr h => (cases h with | inl h => (subst h; simp) | inr h => (subst h; simp))))) (by show 3 < 16; decide)) rfl) rfl) rfl rfl) ?_
    case l1 => rw [sizeLine_eq]; show D.length + 5 ≤ _; omega
    case g1 =>
      refine am_cons (em_pure fun O => ev_call (ea_cons (ev_var (by rfl)) ea_nil) rfl ⟨m, cs, rfl, ⟨a1, a2, a3, a4⟩, rfl⟩) (am_cons (em_pure fun O => ev_call (ea_cons (ev_var (by rfl)) ea_nil) rfl ⟨m, cs, rfl, ⟨a1, a2, a3, a4⟩, rfl⟩) (am_cons (em_pure fun O => ev_call (ea_cons (ev_var (by rfl)) ea_nil) rfl ⟨m, cs, rfl, ⟨a1, a2, a3, a4⟩, rfl⟩)
        (am_cons (em_full (ev_call (ea_cons (ev_op (ev_var (by rfl)) (ev_op (ev_cb (ea_cons (ev_var (by rfl)) ea_nil) cb_lenL) ev_int od_sub) (od_ixL rows_last)) ea_nil) rfl ⟨lastT m cs, rfl, by omega, rfl⟩) fz_nums)
        (am_cons (em_pure fun O => ev_lst (ea_cons (ev_call (ea_cons (ev_var (by rfl)) ea_nil) rfl ⟨m, cs, rfl, a3, rfl⟩) (ea_cons (ev_call (ea_cons (ev_var (by rfl)) ea_nil) rfl ⟨m, cs, rfl, a3, fun p hp => (a4 p hp).2.2, rfl⟩) ea_nil)) (by show 2 ≤ sizeLine; decide)) am_nil))))
    have kd : [PyData.bool (kN m cs cs.length).puts, .bool (kN m cs cs.length).calm] = [.bool (onlyN cs cs.length).isSome, .bool (pileN cs cs.length).isSome] := by
      rw [(kinds_puts ⟨a1, a2, a3, a4⟩ cs.length (Nat.le_refl _)).1, (kinds_calm ⟨a1, a2, a3, a4⟩ cs.length (Nat.le_refl _)).1]
    refine mn_seq (M1 := [(4, .l (D ++ H5 m cs ++ fr m cs 0)), (3, .l (D ++ H5 m cs ++ fr m cs 0))]) (ds1 := [none, some (his m1 cs1), some (his m2 cs2), none, none, some (his m cs), some (.list (rows (zeros m) cs (cs.length + 1))), some (.list ((lastT m cs).map PyData.int)), none, none, none, none, none, none, none, none]) (mn_to (mn_more (k := 1) (i := 4) (es2 := H5 m cs) rfl ?g2 ?l2 (by intro x h; simp [List.eraseIdx] at h; first | (subst h; simp; done) | (cases h with | inl h => (subst h; simp) | inr h => (subst h; simp)) | (cases h with | inl h => (subst h; simp) | inr h => (cases h with | inl h => (subst h; simp) | inr h => (subst h; simp))) | (cases h with | inl h => (subst h; simp) | inr h => (cases h with | inl h => (subst h; simp) | inr h => (cases h with | inl h => (subst h; simp) | inr h => (subst h; simp))))) (by show 4 < 16; decide)) ?e2 rfl) ?_
    case l2 => rw [sizeLine_eq]; show D.length + 5 ≤ _; omega
    case e2 =>
      have z : D ++ H5 m cs ++ fr m cs 0 = D ++ H5 m cs := List.append_nil _
      rw [z]
      rfl
    case g2 =>
      refine am_cons (em_pure fun O => ev_bl) (am_cons (em_pure fun O => (ev_var (by rfl))) (am_cons (em_pure fun O => ev_op (ev_var (by rfl)) (ev_op (ev_cb (ea_cons (ev_var (by rfl)) ea_nil) cb_lenL) ev_int od_sub) (od_ixL rows_last))
        (am_cons (em_pure fun O => ev_cb (ea_cons (ev_lc PyData.int (fun n => decide (0 < n)) PyData.int _ (ei_lst (ev_var (by rfl))) (by omega) (gw_name (by simp)) (fun e _ => gt_name) (fun e _ o => eb_test (ev_op (ev_var (by rfl)) ev_int od_gt)) (fun e _ _ o => (ev_var (by rfl)))) ea_nil) cb_tupL)
        (am_cons (em_pure fun O => ev_to (ev_call (ea_cons (ev_var (by rfl)) ea_nil) rfl ⟨m, cs, rfl, ⟨a1, a2, a3, a4⟩, rfl⟩) (by rw [kd])) am_nil))))
    refine mn_seq (mn_for (es := (enumD (cs.map chg)).take 3) (fun i => [(4, .l (D ++ H5 m cs ++ fr m cs i)), (3, .l (D ++ H5 m cs ++ fr m cs i))]) (fun _ => [none, some (his m1 cs1), some (his m2 cs2), none, none, some (his m cs), some (.list (rows (zeros m) cs (cs.length + 1))), some (.list ((lastT m cs).map PyData.int)), none, none, none, none, none, none, none, none]) (fun O => ei_lst (ev_to (ev_new (ef_slHi (ev_enLst (ev_op (ev_var (by rfl)) ev_int (od_ixT (d := .tuple (cs.map chg)) rfl)) (by rw [List.length_map]; omega)) ev_int)) (by rw [cut3]))) fun i e he => ?_) ?_
    · obtain ⟨i3, c, z, rfl⟩ := enum3_at he
      have hi : i < cs.length := (List.getElem?_eq_some_iff.mp z).1
      obtain ⟨d1, d2, d3⟩ := a4 c (List.mem_of_getElem? z)
      have fl := fr_len m cs i
      refine ⟨_, [10, 11], gs_two (by simp) (by simp), by (intro x h; simp [List.eraseIdx] at h; first | (subst h; simp; done) | (cases h with | inl h => (subst h; simp) | inr h => (subst h; simp)) | (cases h with | inl h => (subst h; simp) | inr h => (cases h with | inl h => (subst h; simp) | inr h => (subst h; simp))) | (cases h with | inl h => (subst h; simp) | inr h => (cases h with | inl h => (subst h; simp) | inr h => (cases h with | inl h => (subst h; simp) | inr h => (subst h; simp))))), ?_⟩
      refine mn_seq (mn_append (k := 1) (e := nums (play (zeros m) (cs.take (i + 1)))) rfl (em_pure fun O => ?h1) ?l1) ?_
      case h1 => exact ev_to (ev_call (ea_cons (ev_op (ev_var (by rfl)) (ev_var (by rfl)) (od_ixL (rows_at (k := i) (by omega)))) (ea_cons (ev_var (by rfl)) ea_nil)) rfl ⟨play (zeros m) (cs.take i), c, rfl, d1, by rw [play_len]; omega, rfl⟩) (by
          rw [if_pos (by rw [play_len, zl]; exact d2), play_next _ _ z])
      case l1 => rw [List.length_append, List.length_append, fl, sizeLine_eq]; show D.length + 5 + i < _; omega
      refine mn_to (mn_forget 10 (mn_forget 11 (mn_append (k := 0) (e := nums (play (zeros m) (cs.take (i + 1)))) rfl (em_pure fun O => ?h2) ?l2))) ?e3 rfl
      case h2 => exact ev_op (ev_var (by rfl)) (ev_op (ev_var (by rfl)) ev_int od_add) (od_ixL (by rw [show ((i : Nat) : Int) + 1 = ((i + 1 : Nat) : Int) by omega]; exact rows_at (k := i + 1) (by omega)))
      case l2 => rw [List.length_append, List.length_append, fl, sizeLine_eq]; show D.length + 5 + i < _; omega
      case e3 =>
        rw [fr_next, ← List.append_assoc]
        rfl
    · have fl := fr_len m cs ((enumD (cs.map chg)).take 3).length
      have l3 : ((enumD (cs.map chg)).take 3).length ≤ 3 := List.length_take_le ..
      refine mn_seq (mn_append (k := 1) (e := .list [.str "place", .int m]) rfl (em_pure fun O => ?h1) ?l1) ?_
      case h1 => exact ev_to (ev_call (ea_cons (ev_op (ev_var (by rfl)) ev_int (od_ixL (rows_at (k := 0) (Nat.zero_le _)))) (ea_cons (ev_tup (ea_cons (ev_op (ev_var (by rfl)) ev_int (od_ixT (d := .int m) rfl)) (ea_cons ev_int ea_nil)) (by show 2 ≤ sizeLine; decide)) ea_nil)) rfl ⟨play (zeros m) (cs.take 0), (m, 1), rfl, by show 0 ≤ m; omega, by rw [play_len]; omega, rfl⟩) (by
          rw [if_neg (by rw [play_len, zl]; show ¬ m < m; omega)])
      case l1 => rw [List.length_append, List.length_append, fl, sizeLine_eq]; show D.length + 5 + _ < _; omega
      refine mn_to (mn_forget 5 (mn_forget 6 (mn_forget 7 (mn_append (k := 0) (e := .list [.str "place", .int m]) rfl (em_pure fun O => ?h2) ?l2)))) ?e3 rfl
      case h2 => exact ev_lst (ea_cons ev_str (ea_cons (ev_op (ev_var (by rfl)) ev_int (od_ixT (d := .int m) rfl)) ea_nil)) (by show 2 ≤ sizeLine; decide)
      case l2 => rw [List.length_append, List.length_append, fl, sizeLine_eq]; show D.length + 5 + _ < _; omega
      case e3 =>
        have z : D ++ blk m cs = D ++ H5 m cs ++ fr m cs ((enumD (cs.map chg)).take 3).length ++ [.list [.str "place", .int m]] := by
          unfold blk
          rw [List.append_assoc, List.append_assoc, List.append_assoc]
        rw [z]
        rfl
  · show MvR K [] _ [(4, .l (blk m1 cs1 ++ blk m2 cs2)), (3, .l (blk m1 cs1 ++ blk m2 cs2))] [none, some (his m1 cs1), some (his m2 cs2), none, none, none, none, none, none, none, none, none, none, none, none, none] _
    have lX : (blk m1 cs1 ++ blk m2 cs2).length ≤ 1000 := by
      have q : ∀ m cs, (blk m cs).length ≤ 9 := fun m cs => by
        unfold blk
        rw [List.length_append, List.length_append, fr_len, List.length_take]
        show 5 + min 3 _ + 1 ≤ 9
        omega
      have q1 := q m1 cs1
      have q2 := q m2 cs2
      rw [List.length_append]
      omega
    have hb : ∀ {m n : Int} {cs bs : List (Int × Int)}, Good m cs → Good n bs → Hist (m + n) (cs ++ bs.map fun p => (m + p.1, p.2)) := fun {m n cs bs} h1 h2 => by
      obtain ⟨x1, x2, x3, x4⟩ := h1
      obtain ⟨y1, y2, y3, y4⟩ := h2
      refine ⟨by omega, by omega, by rw [List.length_append, List.length_map]; omega, fun p hp => ?_⟩
      rcases List.mem_append.mp hp with hp | hp
      · have z := x4 p hp
        exact ⟨z.1, by omega, z.2.2.1⟩
      · obtain ⟨c, hc, rfl⟩ := List.mem_map.mp hp
        have z := y4 c hc
        exact ⟨by show 0 ≤ m + c.1; omega, by show m + c.1 < m + n; omega, z.2.2.1⟩
    have ok1 := okBlk g1
    have ok2 := okBlk g2
    have c31 : cs1.length ≤ 100 := g1.2.2.1
    have c32 : cs2.length ≤ 100 := g2.2.2.1
    have h12 := hb g1 g2
    have h21 := hb g2 g1
    have p12 := play_beside t1 t2
    have p21 := play_beside t2 t1
    have b12 : ((cs1 ++ cs2.map fun p => (m1 + p.1, p.2)).map chg).length = cs1.length + cs2.length := by rw [List.length_map, List.length_append, List.length_map]
    have ll1 : (lastT m1 cs1).length ≤ 1000 := by have := zeros_len t1.1; have := t1.2.1; rw [play_len]; omega
    have ll2 : (lastT m2 cs2).length ≤ 1000 := by have := zeros_len t2.1; have := t2.2.1; rw [play_len]; omega
    have okX : ∀ e ∈ blk m1 cs1 ++ blk m2 cs2, okD 4 e := fun e he => by
      rcases List.mem_append.mp he with he | he
      · exact ok1 e he
      · exact ok2 e he
    generalize blk m1 cs1 ++ blk m2 cs2 = X at lX okX
    refine mr_seq (mn_set (i := 12) (e := his (m1 + m2) (cs1 ++ cs2.map fun p => (m1 + p.1, p.2))) (em_pure fun O => ?b1) (by intro x h; simp [List.eraseIdx] at h; first | (subst h; simp; done) | (cases h with | inl h => (subst h; simp) | inr h => (subst h; simp)) | (cases h with | inl h => (subst h; simp) | inr h => (cases h with | inl h => (subst h; simp) | inr h => (subst h; simp))) | (cases h with | inl h => (subst h; simp) | inr h => (cases h with | inl h => (subst h; simp) | inr h => (cases h with | inl h => (subst h; simp) | inr h => (subst h; simp)))))) ?_
    case b1 => exact ev_call (ea_cons (ev_var (by rfl)) (ea_cons (ev_var (by rfl)) ea_nil)) rfl ⟨m1, cs1, m2, cs2, rfl, by omega, by omega, rfl⟩
    let Y : List PyData := [.int (m1 + m2), .int ((cs1.length + cs2.length : Nat) : Int), nums (lastT m1 cs1 ++ lastT m2 cs2), nums (lastT m2 cs2 ++ lastT m1 cs1)]
    refine mr_seq (mn_more (k := 1) (i := 3) (es2 := Y) rfl ?b2 (by rw [sizeLine_eq]; show X.length + 4 ≤ _; omega) (by intro x h; simp [List.eraseIdx] at h; first | (subst h; simp; done) | (cases h with | inl h => (subst h; simp) | inr h => (subst h; simp)) | (cases h with | inl h => (subst h; simp) | inr h => (cases h with | inl h => (subst h; simp) | inr h => (subst h; simp))) | (cases h with | inl h => (subst h; simp) | inr h => (cases h with | inl h => (subst h; simp) | inr h => (cases h with | inl h => (subst h; simp) | inr h => (subst h; simp))))) (by show 3 < 16; decide)) ?_
    case b2 =>
      refine am_cons (em_pure fun O => ev_op (ev_var (by rfl)) ev_int (od_ixT (d := .int (m1 + m2)) rfl)) (am_cons (em_pure fun O => ev_to (ev_cb (ea_cons (ev_op (ev_var (by rfl)) ev_int (od_ixT (d := .tuple ((cs1 ++ cs2.map fun p => (m1 + p.1, p.2)).map chg)) rfl)) ea_nil) cb_lenT) (by rw [b12]))
        (am_cons (em_pure fun O => ev_to (ev_call (ea_cons (ev_var (by rfl)) ea_nil) rfl ⟨m1 + m2, _, rfl, h12, rfl⟩) (by rw [p12]))
        (am_cons (em_pure fun O => ev_to (ev_call (ea_cons (ev_call (ea_cons (ev_var (by rfl)) (ea_cons (ev_var (by rfl)) ea_nil)) rfl ⟨m2, cs2, m1, cs1, rfl, by omega, by omega, rfl⟩) ea_nil) rfl ⟨m2 + m1, _, rfl, h21, rfl⟩) (by rw [p21])) am_nil)))
    refine mr_seq (mn_parD (d1 := nums (lastT m1 cs1)) (d2 := nums (lastT m2 cs2)) (em_pure fun O => ?b3) (em_pure fun O => ?b4) (by intro x h; simp [List.eraseIdx] at h; first | (subst h; simp; done) | (cases h with | inl h => (subst h; simp) | inr h => (subst h; simp)) | (cases h with | inl h => (subst h; simp) | inr h => (cases h with | inl h => (subst h; simp) | inr h => (subst h; simp))) | (cases h with | inl h => (subst h; simp) | inr h => (cases h with | inl h => (subst h; simp) | inr h => (cases h with | inl h => (subst h; simp) | inr h => (subst h; simp))))) (by intro x h; simp [List.eraseIdx] at h; first | (subst h; simp; done) | (cases h with | inl h => (subst h; simp) | inr h => (subst h; simp)) | (cases h with | inl h => (subst h; simp) | inr h => (cases h with | inl h => (subst h; simp) | inr h => (subst h; simp))) | (cases h with | inl h => (subst h; simp) | inr h => (cases h with | inl h => (subst h; simp) | inr h => (cases h with | inl h => (subst h; simp) | inr h => (subst h; simp)))))) ?_
    case b3 => exact ev_call (ea_cons (ev_var (by rfl)) ea_nil) rfl ⟨m1, cs1, rfl, t1, rfl⟩
    case b4 => exact ev_call (ea_cons (ev_var (by rfl)) ea_nil) rfl ⟨m2, cs2, rfl, t2, rfl⟩
    have cat : ∀ {as bs : List Int}, as.length ≤ 1000 → bs.length ≤ 1000 → PyData.tuple (as.map PyData.int ++ bs.map PyData.int) = nums (as ++ bs) := fun _ _ => by
      unfold nums
      rw [List.map_append]
    refine mr_seq (mn_more (k := 1) (i := 4) (es2 := Y) rfl ?b5 (by rw [sizeLine_eq]; show X.length + 4 ≤ _; omega) (by intro x h; simp [List.eraseIdx] at h; first | (subst h; simp; done) | (cases h with | inl h => (subst h; simp) | inr h => (subst h; simp)) | (cases h with | inl h => (subst h; simp) | inr h => (cases h with | inl h => (subst h; simp) | inr h => (subst h; simp))) | (cases h with | inl h => (subst h; simp) | inr h => (cases h with | inl h => (subst h; simp) | inr h => (cases h with | inl h => (subst h; simp) | inr h => (subst h; simp))))) (by show 4 < 16; decide)) ?_
    case b5 =>
      refine am_cons (em_pure fun O => ev_op (ev_op (ev_var (by rfl)) ev_int (od_ixT (d := .int m1) rfl)) (ev_op (ev_var (by rfl)) ev_int (od_ixT (d := .int m2) rfl)) od_add) (am_cons (em_pure fun O => ev_to (ev_op (ev_cb (ea_cons (ev_op (ev_var (by rfl)) ev_int (od_ixT (d := .tuple (cs1.map chg)) rfl)) ea_nil) cb_lenT) (ev_cb (ea_cons (ev_op (ev_var (by rfl)) ev_int (od_ixT (d := .tuple (cs2.map chg)) rfl)) ea_nil) cb_lenT) od_add) (by
          rw [List.length_map, List.length_map]
          rfl))
        (am_cons (em_pure fun O => ev_to (ev_op (ev_var (by rfl)) (ev_var (by rfl)) (od_catA (as := (lastT m1 cs1).map PyData.int) (bs := (lastT m2 cs2).map PyData.int) (by rw [List.length_map, List.length_map, sizeLine_eq]; omega))) (cat ll1 ll2))
        (am_cons (em_pure fun O => ev_to (ev_op (ev_var (by rfl)) (ev_var (by rfl)) (od_catA (as := (lastT m2 cs2).map PyData.int) (bs := (lastT m1 cs1).map PyData.int) (by rw [List.length_map, List.length_map, sizeLine_eq]; omega))) (cat ll2 ll1)) am_nil)))
    let W : List Int := (lastT m1 cs1).filter fun n => decide (0 < n)
    have lW : W.length ≤ 1000 := Nat.le_trans (List.length_filter_le ..) ll1
    have pW : ∀ x ∈ W, 0 < x := fun x hx => by
      have z := (List.mem_filter.mp hx).2
      exact of_decide_eq_true z
    refine mr_seq (mn_set (i := 15) (e := nums W) (em_pure fun O => ?b6) (by intro x h; simp [List.eraseIdx] at h; first | (subst h; simp; done) | (cases h with | inl h => (subst h; simp) | inr h => (subst h; simp)) | (cases h with | inl h => (subst h; simp) | inr h => (cases h with | inl h => (subst h; simp) | inr h => (subst h; simp))) | (cases h with | inl h => (subst h; simp) | inr h => (cases h with | inl h => (subst h; simp) | inr h => (cases h with | inl h => (subst h; simp) | inr h => (subst h; simp)))))) ?_
    case b6 => exact ev_call (ea_cons (ev_var (by rfl)) ea_nil) rfl ⟨lastT m1 cs1, rfl, by omega, rfl⟩
    clear_value W
    let Z : List PyData := [his (if (W.length : Int) > 1 then W.length else 1) (enumC 0 W), nums (if W.length > 0 then W else [0])]
    refine mr_seq (mn_more (k := 1) (i := 3) (es2 := Z) rfl ?b7 (by rw [sizeLine_eq]; show (X ++ Y).length + 2 ≤ _; rw [List.length_append]; show X.length + 4 + 2 ≤ _; omega) (by intro x h; simp [List.eraseIdx] at h; first | (subst h; simp; done) | (cases h with | inl h => (subst h; simp) | inr h => (subst h; simp)) | (cases h with | inl h => (subst h; simp) | inr h => (cases h with | inl h => (subst h; simp) | inr h => (subst h; simp))) | (cases h with | inl h => (subst h; simp) | inr h => (cases h with | inl h => (subst h; simp) | inr h => (cases h with | inl h => (subst h; simp) | inr h => (subst h; simp))))) (by show 3 < 16; decide)) ?_
    case b7 =>
      refine am_cons (em_pure fun O => ev_call (ea_cons (ev_var (by rfl)) ea_nil) rfl ⟨W, rfl, lW, rfl⟩) (am_cons (em_pure fun O => ev_to (ev_call (ea_cons (ev_call (ea_cons (ev_var (by rfl)) ea_nil) rfl ⟨W, rfl, lW, rfl⟩) ea_nil) rfl ⟨_, _, rfl, plain_hist lW pW, rfl⟩) (by rw [plain_play])) am_nil)
    refine mr_seq (mn_more (k := 1) (i := 4) (es2 := Z) rfl ?b8 (by rw [sizeLine_eq]; show (X ++ Y).length + 2 ≤ _; rw [List.length_append]; show X.length + 4 + 2 ≤ _; omega) (by intro x h; simp [List.eraseIdx] at h; first | (subst h; simp; done) | (cases h with | inl h => (subst h; simp) | inr h => (subst h; simp)) | (cases h with | inl h => (subst h; simp) | inr h => (cases h with | inl h => (subst h; simp) | inr h => (subst h; simp))) | (cases h with | inl h => (subst h; simp) | inr h => (cases h with | inl h => (subst h; simp) | inr h => (cases h with | inl h => (subst h; simp) | inr h => (subst h; simp))))) (by show 4 < 16; decide)) ?_
    case b8 =>
      have ew : ((W.map PyData.int).length : Int).toNat = W.length := by rw [List.length_map]; omega
      have hW : ∀ e ∈ List.range ((W.map PyData.int).length : Int).toNat, atI (W.map PyData.int) ((0 : Int) + (e : Nat)) = some (.int (W.getD e 0)) := fun e he => by
        rw [ew, List.mem_range] at he
        rw [Int.zero_add]
        refine atI_nat ?_
        rw [List.getElem?_map, List.getElem?_eq_getElem he, List.getD_eq_getElem?_getD, List.getElem?_eq_getElem he]
        rfl
      refine am_cons (em_pure fun O => ev_to (ev_tup (ea_cons (ev_cb (ea_cons (ev_cb (ea_cons (ev_var (by rfl)) ea_nil) cb_lenT) (ea_cons ev_int ea_nil)) cb_max) (ea_cons (ev_cb (ea_cons (ev_lcm (fun i : Nat => PyData.int ((0 : Int) + (i : Nat))) (xs := List.range ((W.map PyData.int).length : Int).toNat) (fun i : Nat => chg ((i : Int), W.getD i 0)) _ (ei_rng1 (ev_cb (ea_cons (ev_var (by rfl)) ea_nil) cb_lenT) ?i1 ?i2) ?i3 (gw_name (by simp)) (fun e _ => gt_name)
        (fun e he o => ev_to (ev_tup (ea_cons (ev_var (by rfl)) (ea_cons (ev_op (ev_var (by rfl)) (ev_var (by rfl)) (od_ixT (d := .int (W.getD e 0)) (hW e he))) ea_nil)) (by show 2 ≤ sizeLine; decide)) (by rw [Int.zero_add]))) ea_nil) cb_tupL) ea_nil)) (by show 2 ≤ sizeLine; decide)) ?eq) (am_cons (em_pure fun O => ev_ifE (b := decide ((0 : Int) < ((W.map PyData.int).length : Nat))) (eb_test (ev_op (ev_cb (ea_cons (ev_var (by rfl)) ea_nil) cb_lenT) ev_int od_gt)) (fun h => ev_to (ev_var (by rfl)) ?y1) (fun h => ev_to (ev_tup (ea_cons ev_int ea_nil) (by show 1 ≤ sizeLine; decide)) ?y2)) am_nil)
      case i1 => exact Int.le_trans (by decide) (Int.natCast_nonneg _)
      case i2 => rw [List.length_map]; omega
      case i3 => rw [List.length_range, List.length_map]; omega
      case eq =>
        have e1 : (if (1 : Int) > ((W.map PyData.int).length : Nat) then 1 else ((W.map PyData.int).length : Int)) = if (W.length : Int) > 1 then (W.length : Int) else 1 := by
          rw [List.length_map]
          split <;> split <;> omega
        have e2 : (List.range ((W.map PyData.int).length : Int).toNat).map (fun i : Nat => chg ((i : Int), W.getD i 0)) = (enumC 0 W).map chg := by
          rw [ew]
          apply List.ext_getElem?
          intro i
          unfold enumC
          rw [List.getElem?_map, List.getElem?_map, List.getElem?_mapIdx]
          by_cases c : i < W.length
          · have gd : W.getD i 0 = W[i] := by
              rw [List.getD_eq_getElem?_getD, List.getElem?_eq_getElem c]
              rfl
            rw [List.getElem?_range c, List.getElem?_eq_getElem c, Option.map_some, Option.map_some, Option.map_some, gd]
            rfl
          · rw [List.getElem?_eq_none (by rw [List.length_range]; omega), List.getElem?_eq_none (by omega)]
            rfl
        rw [e1, e2]
      case y1 =>
        have z := of_decide_eq_true h
        rw [List.length_map] at z
        rw [if_pos (by omega)]
      case y2 =>
        have z := of_decide_eq_false h
        rw [List.length_map] at z
        rw [if_neg (by omega)]
        rfl
    refine mr_to (mr_ret (ev_call (ea_cons (ev_var (by rfl)) (ea_cons (ev_var (by rfl)) ea_nil)) rfl ⟨.list (X ++ Y ++ Z), rfl, ?_, rfl⟩)) rfl
    refine ⟨by rw [List.length_append, List.length_append]; show X.length + 4 + 2 ≤ _; omega, fun e he => ?_⟩
    rcases List.mem_append.mp he with he | he
    · rcases List.mem_append.mp he with he | he
      · exact okX e he
      · simp only [Y, List.mem_cons, List.not_mem_nil, or_false] at he
        rcases he with rfl | rfl | rfl | rfl
        · exact okD_scal rfl
        · exact okD_scal rfl
        · exact ok_nums 3 (by rw [List.length_append]; omega)
        · exact ok_nums 3 (by rw [List.length_append]; omega)
    · simp only [Z, List.mem_cons, List.not_mem_nil, or_false] at he
      rcases he with rfl | rfl
      · exact ok_his 1 (by rw [enumC_len]; omega)
      · refine ok_nums 3 ?_
        split
        · omega
        · decide
end
end K2

namespace Ph
open PySem PySem.Spec PyProof.Rows L2
/-! ### draws beside mutables: the source is in slot 0, at u, last of the mutables -/
def UC (n : Nat) (x : HO) : Prop := ∃ b c m : Int, x = .lst [.int b, .int c, .int m] ∧ 0 ≤ b ∧ 0 ≤ c ∧ c < 2 ^ 63 ∧ 0 ≤ m ∧ m ≤ n
theorem UC.mono {n k : Nat} {x : HO} (h : UC n x) (l : n ≤ k) : UC k x := by
  obtain ⟨b, c, m, e, h1, h2, h3, h4, h5⟩ := h
  exact ⟨b, c, m, e, h1, h2, h3, h4, by omega⟩
theorem urn_uc {H : Hp} {u : Addr} {n : Nat} (h : Urn H u n) : ∃ x, H u = some x ∧ UC n x := by
  obtain ⟨b, c, m, e, r⟩ := h
  exact ⟨_, e, b, c, m, rfl, r⟩
theorem uc_urn {H : Hp} {u : Addr} {n : Nat} {x : HO} (e : H u = some x) (h : UC n x) : Urn H u n := by
  obtain ⟨b, c, m, rfl, r⟩ := h
  exact ⟨b, c, m, e, r⟩
abbrev XS (M : ML) (u : Addr) (x : HO) : ML := M ++ [(0, .f u x)]
def XT (K : PySem.W.Frag) (B : Hp) (u : Addr) (M : ML) (ps : List Addr) (σ : L2.St) (H : Hp) (ds : List (Option PyData)) (n : Nat) : Prop := ∃ x, MS K B [] (XS M u x) ps σ H ds ∧ UC n x
section
variable {K : PySem.W.Frag} {B : Hp} {u : Addr} {M M' : ML} {ps : List Addr} {σ : L2.St} {H H2 : Hp} {ds : List (Option PyData)} {n n2 k l : Nat} {te : TE} {d : PyData} {R : PyData → Prop}
theorem XT.up (s : XT K B u M ps σ H ds n) (h : n ≤ n2) : XT K B u M ps σ H ds n2 := by
  obtain ⟨x, s, c⟩ := s
  exact ⟨x, s, c.mono h⟩
theorem XT.src {x : HO} (s : MS K B [] (XS M u x) ps σ H ds) : ps[M.length]? = some u ∧ σ[0]? = some (some (.ref u)) ∧ H u = some x ∧ B u = none := by
  obtain ⟨p, y, h1, h2, h3, ob, b, _⟩ := s.mu.at (k := M.length) (i := 0) (c := .f u x) (by
    show (M ++ [(0, MC.f u x)])[M.length]? = _
    rw [List.getElem?_append_right (Nat.le_refl _), Nat.sub_self]
    rfl)
  cases ob
  exact ⟨h1, h2, h3, b⟩
theorem XT.at (s : XT K B u M ps σ H ds n) : At H (ps ++ []) u 0 σ n := by
  obtain ⟨x, s, c⟩ := s
  obtain ⟨h1, h2, h3, _⟩ := XT.src s
  exact ⟨List.mem_append_left _ (List.mem_of_getElem? h1), h2, uc_urn h3 c⟩
theorem XT.owA (s : XT K B u M ps σ H ds n) : Owned H (ps ++ []) := by
  obtain ⟨x, s, c⟩ := s
  exact s.owA
theorem XT.en (s : XT K B u M ps σ H ds n) : En K (hide H (ps ++ [])) σ ds := by
  obtain ⟨x, s, c⟩ := s
  exact s.en
/-- behind a draw -/
theorem XT.draw (s : XT K B u M ps σ H ds n) (D : Dr H H2 (ps ++ []) u n2) : XT K B u M ps σ H2 ds n2 := by
  obtain ⟨x, s, c⟩ := s
  obtain ⟨h1, h2, h3, hb⟩ := XT.src s
  obtain ⟨x', e', c'⟩ := urn_uc D.urn
  have as : Aside x' := by
    obtain ⟨_, _, _, rfl, _⟩ := c'
    exact True.intro
  have mu1 := (s.mu.upd (k := M.length) (i := 0) (e0 := .f u x) (p := u) (x := x') (c := .f u x') (.f as) s.nd (by
    show (M ++ [(0, MC.f u x)])[M.length]? = _
    rw [List.getElem?_append_right (Nat.le_refl _), Nat.sub_self]
    rfl) h1)
  have es : (XS M u x).set M.length (0, .f u x') = XS M u x' := by
    show (M ++ [(0, MC.f u x)]).set M.length _ = _
    rw [List.set_append_right _ _ (Nat.le_refl _), Nat.sub_self]
    rfl
  rw [es] at mu1
  refine ⟨x', ⟨fun a y h => ?_, own0, s.en.mono D.ex, mu1.keep (fun a ha => ?_) D.ex, s.nd⟩, c'⟩
  · have z := s.ex a y h
    rw [hide_nil] at z
    have na : a ∉ ps ++ [] := fun m => by
      rw [List.append_nil] at m
      obtain ⟨_, _, _, b, _⟩ := s.mu.own a m
      rw [h] at b
      cases b
    have q := D.ex a y (by rw [hide_out na]; exact z)
    rw [hide_nil]
    exact (hide_some q).2
  · by_cases c : a = u
    · rw [c, upd_same, e']
    · rw [upd_ne c, D.same a (List.mem_append_left _ ha) c]
def XvN (K : PySem.W.Frag) (u : Addr) (k : Nat) (ts : TS) (M : ML) (ds : List (Option PyData)) (S : ML → List (Option PyData) → Prop) : Prop :=
  ∀ B (D : Ends) ps σ H n, XT K B u M ps σ H ds n → n + k ≤ 100000 → (∀ M' ds' σ' H' ps', S M' ds' → XT K B u M' ps' σ' H' ds' (n + k) → D.nx σ' H') → ts D σ H
def XvR (K : PySem.W.Frag) (u : Addr) (k : Nat) (ts : TS) (M : ML) (ds : List (Option PyData)) (R : PyData → Prop) : Prop :=
  ∀ B (D : Ends) ps σ H n, XT K B u M ps σ H ds n → n + k ≤ 100000 → (∀ v d H', R d → Ex B H' → Urn H' u (n + k) → DD K (hide H' [u]) v d → D.rt v H') → ts D σ H
def XbB (K : PySem.W.Frag) (u : Addr) (k : Nat) (tt : TT) (M : ML) (ds : List (Option PyData)) (P : Bool → Prop) : Prop :=
  ∀ B ps σ H n, XT K B u M ps σ H ds n → n + k ≤ 100000 → ∀ Q : Bool → Hp → Prop, (∀ b H2, P b → XT K B u M ps σ H2 ds (n + k) → Q b H2) → tt σ H Q
theorem xn_pure {ts : TS} {ds' : List (Option PyData)} (h : ∀ x, MvN K [] ts (XS M u x) ds (XS M' u x) ds') : XvN K u 0 ts M ds (fun a b => a = M' ∧ b = ds') := fun B D ps σ H n s hn q => by
  obtain ⟨x, s, c⟩ := s
  exact h x B D ps σ H s fun σ' H' ps' s' => q _ _ σ' H' ps' ⟨rfl, rfl⟩ ⟨x, s', c⟩
theorem xn_seq {t t2 : TS} {S S2 : ML → List (Option PyData) → Prop} (h : XvN K u k t M ds S) (h2 : ∀ M' ds', S M' ds' → XvN K u l t2 M' ds' S2) : XvN K u (k + l) (tSeq t t2) M ds S2 := fun B D ps σ H n s hn q =>
  h B _ ps σ H n s (by omega) fun M' ds' σ' H' ps' hs s' => h2 M' ds' hs B D ps' σ' H' (n + k) s' (by omega) fun M2 d2 σ2 H2 p2 q2 s2 => q M2 d2 σ2 H2 p2 q2 (by rw [← Nat.add_assoc]; exact s2)
theorem xr_seq {t t2 : TS} {S : ML → List (Option PyData) → Prop} (h : XvN K u k t M ds S) (h2 : ∀ M' ds', S M' ds' → XvR K u l t2 M' ds' R) : XvR K u (k + l) (tSeq t t2) M ds R := fun B D ps σ H n s hn q =>
  h B _ ps σ H n s (by omega) fun M' ds' σ' H' ps' hs s' => h2 M' ds' hs B D ps' σ' H' (n + k) s' (by omega) fun v d H2 r e U x => q v d H2 r e (by rw [← Nat.add_assoc]; exact U) x
theorem xn_imp {t : TS} {S S2 : ML → List (Option PyData) → Prop} (h : XvN K u k t M ds S) (i : ∀ M' ds', S M' ds' → S2 M' ds') (l2 : k ≤ l) : XvN K u l t M ds S2 := fun B D ps σ H n s hn q =>
  h B D ps σ H n s (by omega) fun M' ds' σ' H' ps' hs s' => q M' ds' σ' H' ps' (i _ _ hs) (s'.up (by omega))
theorem xr_more {t : TS} (h : XvR K u k t M ds R) (l2 : k ≤ l) : XvR K u l t M ds R := fun B D ps σ H n s hn q =>
  h B D ps σ H n s (by omega) fun v d H' r e U x => q v d H' r e (U.mono (by omega)) x
/-- x = e, drawn -/
theorem xn_set {i : Nat} (h : ∀ O, EvU K O u 0 te ds k R) (hi : ∀ m ∈ M, m.1 ≠ i) (h0 : i ≠ 0) : XvN K u k (tAsg te (gName i)) M ds (fun M' ds' => M' = M ∧ ∃ d, R d ∧ ds' = ds.set i (some d)) := fun B D ps σ H n s hn q =>
  h (ps ++ []) σ H n s.en s.owA s.at hn _ fun v d H2 r Dr x => by
    obtain ⟨y, s2, c⟩ := s.draw Dr
    refine q M _ _ H2 ps ⟨rfl, d, r, rfl⟩ ⟨y, s2.set x fun m hm => ?_, c⟩
    rcases List.mem_append.mp hm with hm | hm
    · exact hi m hm
    · rw [List.mem_singleton.mp hm]
      exact Ne.symm h0
theorem xb_pure {t : TT} {b : Bool} (h : ∀ x, EbM K [] (XS M u x) t ds b) : XbB K u 0 t M ds (fun c => c = b) := fun B ps σ H n s hn Q q => by
  obtain ⟨x, s, c⟩ := s
  exact h x B ps σ H s Q fun H2 s2 e => q b H2 rfl ⟨x, s2, c⟩
theorem xb_draw {P : Bool → Prop} (h : ∀ O, EvU K O u 0 te ds k (fun d => ∃ b, d = .bool b ∧ P b)) : XbB K u k (tTest te) M ds P := fun B ps σ H n s hn Q q =>
  h (ps ++ []) σ H n s.en s.owA s.at hn _ fun v d H2 r Dr x => by
    obtain ⟨b, rfl, p⟩ := r
    exact ⟨b, dd_bool x, q b H2 p (s.draw Dr)⟩
theorem xb_and {t t2 : TT} {P P2 P3 : Bool → Prop} (h : XbB K u k t M ds P) (h2 : P true → XbB K u l t2 M ds P2) (p1 : P false → P3 false) (p2 : ∀ b, P true → P2 b → P3 b) : XbB K u (k + l) (tAnd t t2) M ds P3 := fun B ps σ H n s hn Q q =>
  h B ps σ H n s (by omega) _ fun b H2 p s2 => by
    cases b with
    | true =>
      refine iteT ?_
      exact h2 p B ps σ H2 (n + k) s2 (by omega) Q fun b H3 q3 s3 => q b H3 (p2 b p q3) (by rw [← Nat.add_assoc]; exact s3)
    | false =>
      refine iteF ?_
      exact q false H2 (p1 p) (s2.up (by omega))
theorem xb_or {t t2 : TT} {P P2 P3 : Bool → Prop} (h : XbB K u k t M ds P) (h2 : P false → XbB K u l t2 M ds P2) (p1 : P true → P3 true) (p2 : ∀ b, P false → P2 b → P3 b) : XbB K u (k + l) (tOr t t2) M ds P3 := fun B ps σ H n s hn Q q =>
  h B ps σ H n s (by omega) _ fun b H2 p s2 => by
    cases b with
    | true =>
      refine iteT ?_
      exact q true H2 (p1 p) (s2.up (by omega))
    | false =>
      refine iteF ?_
      exact h2 p B ps σ H2 (n + k) s2 (by omega) Q fun b H3 q3 s3 => q b H3 (p2 b p q3) (by rw [← Nat.add_assoc]; exact s3)
theorem xn_if {c : TT} {t t2 : TS} {P : Bool → Prop} {S : ML → List (Option PyData) → Prop} (h : XbB K u k c M ds P) (h1 : P true → XvN K u l t M ds S) (h2 : P false → XvN K u l t2 M ds S) : XvN K u (k + l) (tIfS c t t2) M ds S := fun B D ps σ H n s hn q =>
  h B ps σ H n s (by omega) _ fun b H2 p s2 => by
    cases b with
    | true =>
      refine iteT ?_
      exact h1 p B D ps σ H2 (n + k) s2 (by omega) fun M' ds' σ' H' ps' hs s' => q M' ds' σ' H' ps' hs (by rw [← Nat.add_assoc]; exact s')
    | false =>
      refine iteF ?_
      exact h2 p B D ps σ H2 (n + k) s2 (by omega) fun M' ds' σ' H' ps' hs s' => q M' ds' σ' H' ps' hs (by rw [← Nat.add_assoc]; exact s')
theorem xr_ret (h : ∀ x, EvD K [] te (fill ds (XS M u x)) d) (f : Fz d) (r : R d) : XvR K u 0 (tRet te) M ds R := fun B D ps σ H n s hn q => by
  obtain ⟨x, s, c⟩ := s
  obtain ⟨h1, h2, h3, hb⟩ := XT.src s
  refine h x σ H s.full s.ow _ fun v H2 e2 W2 y => ?_
  have U := uc_urn (e2 _ _ h3) c
  obtain ⟨m, f⟩ := f
  have ex := s.ex
  rw [hide_nil] at ex
  exact q v d H2 r (ex.trans e2) U (dd_fz (tk_hide (urn_own U)) m f y)
/-- the entry of a def that draws -/
theorem su_x {t : TS} (h : XvR K u k t [] ds R) (h0 : ds[0]? = some none) : SrU K [u] u 0 t ds k R := fun D σ H n E W A hn q => by
  obtain ⟨x, e, c⟩ := urn_uc A.urn
  have as : Aside x := by
    obtain ⟨_, _, _, rfl, _⟩ := c
    exact True.intro
  refine h (hide H [u]) D [u] σ H n ⟨x, ⟨by rw [hide_nil]; exact hide_ex, own0, by rw [List.append_nil]; exact E, .cons A.slot e (.f as) (hide_in (by simp)) (by simp) .nil, List.nodup_cons.mpr ⟨by simp, List.nodup_nil⟩⟩, c⟩ hn fun v d H' r ex U y => ?_
  refine q v d H' r ⟨fun a z hz => ?_, urn_own U, fun a ha na => absurd (by simpa using ha) na, U⟩ y
  obtain ⟨na, _⟩ := hide_some hz
  rw [hide_out na]
  exact ex a z hz
end
end Ph

namespace Ph
open PySem PySem.Spec PyProof.Rows L2
section
variable {K : PySem.W.Frag} {B : Hp} {o : List Addr} {u : Addr} {M M' : ML} {ps : List Addr} {σ : L2.St} {H H2 : Hp} {ds : List (Option PyData)} {n n2 k l : Nat} {te ta tb ti : TE} {d e1 e2 : PyData} {R : PyData → Prop}
theorem dds_fz {G G' : Hp} (t : TK K G G') : ∀ {es : List PyData} {vs : List V}, (∀ e ∈ es, Fz e) → DDs K G vs es → DDs K G' vs es
  | [], _, _, h => by cases h; exact .nil
  | e :: es, _, f, h => by
    cases h with
    | cons r1 r2 =>
      obtain ⟨m, fm⟩ := f e List.mem_cons_self
      exact .cons (dd_fz t m fm r1) (dds_fz t (fun e m => f e (List.mem_cons_of_mem _ m)) r2)
/-- a dict read as data, for a list laid anew out of it -/
theorem MS.giveD {B : Hp} {ps : List Addr} {σ : L2.St} {H : Hp} (s : MS K B o M ps σ H ds) {k i : Nat} {ms : List (PyData × PyData)} (hk : M[k]? = some (i, .d ms)) : MS K B o (M.eraseIdx k) (ps.eraseIdx k) σ H (ds.set i (some (.dict ms))) := by
  obtain ⟨p, x, hp, hs, hv, t, b, n⟩ := s.mu.at hk
  cases t with | @d kvs _ t => ?_
  have s2 := s.lose k
  have g : Ex (hide H (ps ++ o)) (hide H (ps.eraseIdx k ++ o)) := fun a x h => by
    obtain ⟨c, h⟩ := hide_some h
    rw [hide_out fun m => c ?_]
    · exact h
    · rcases List.mem_append.mp m with m | m
      · exact List.mem_append_left _ (List.mem_of_mem_eraseIdx m)
      · exact List.mem_append_right _ m
  have pn : p ∉ ps.eraseIdx k ++ o := fun m => by
    rcases List.mem_append.mp m with m | m
    · obtain ⟨l, e⟩ := List.getElem?_eq_some_iff.mp hp
      rw [← e] at m
      obtain ⟨j, hj, e2⟩ := List.mem_eraseIdx_iff_getElem.mp m
      obtain ⟨hj, e2⟩ := e2
      exact hj ((List.getElem_inj s.nd).mp e2)
    · exact n m
  exact ⟨s2.ex, s2.ow, en_at s2.en hs (.dct (by rw [hide_out pn]; exact hv) (t.mono g)), s2.mu, s2.nd⟩
theorem em_dk {k i : Nat} {ms : List (PyData × PyData)} {es : List PyData} (hk : M[k]? = some (i, .d ms)) (h : ∀ O, EvD K O te (ds.set i (some (.dict ms))) (.list es)) (f : ∀ e ∈ es, Fz e) : EvM K o M te ds (.list es) := fun B ps σ H s Q q => by
  have s2 := s.giveD hk
  obtain ⟨p, x, hp, hs, hv, t, b, n⟩ := s.mu.at hk
  cases t with | @d kvs _ t => ?_
  refine h (ps.eraseIdx k ++ o) σ H s2.en s2.owA Q fun v H2 e2 W2 y => ?_
  obtain ⟨a, vs, rfl, ha, r⟩ := dd_lst y
  obtain ⟨na, ha⟩ := hide_some ha
  have nap : a ≠ p := fun z => by
    have q2 := e2 _ _ hv
    rw [z, q2] at ha
    cases ha
  have na2 : a ∉ ps ++ o := fun m => by
    rcases List.mem_append.mp m with m | m
    · obtain ⟨j, hj⟩ := List.getElem?_of_mem m
      by_cases c : j = k
      · rw [c, hp] at hj
        exact nap (Option.some.inj hj).symm
      · refine na (List.mem_append_left _ ?_)
        obtain ⟨lj, ej⟩ := List.getElem?_eq_some_iff.mp hj
        exact List.mem_eraseIdx_iff_getElem.mpr ⟨j, lj, c, ej⟩
    · exact na (List.mem_append_right _ m)
  have s3 := s.to e2
  refine q _ H2 s3 e2 (.lst (by rw [hide_out na2]; exact ha) ?_)
  exact dds_fz (tk_hide s3.owA) f r
/-- x, d[k] = e1, e2 -/
theorem mn_namePut {k i j : Nat} {n : Int} {ms : List (PyData × PyData)} (hk : M[k]? = some (j, .d ms)) (h1 : EvM K o M ta ds e1) (h2 : EvM K o M tb ds e2) (hi : ∀ m ∈ M, m.1 ≠ i) (h3 : EvM K o M ti (ds.set i (some e1)) (.int n)) (hl : ms.length < sizeLine) :
    MvN K o (tAsg (tTup (tCons ta (tCons tb tNil))) (gTup K 2 (gCons (gName i) (gCons (gSub (tVar j) ti rSetD) gNil)))) M ds (M.set k (j, .d (dPut ms n e2))) (ds.set i (some e1)) := fun B D ps σ H s q =>
  h1 B ps σ H s _ fun v1 H1 s1 x1 y1 => h2 B ps σ H1 s1 _ fun v2 H2 s2 x2 y2 => ⟨by show 2 ≤ sizeLine; decide, fun T hT => by
    have eT := ex_new (x := .tup [v1, v2]) hT
    have s3 := (s2.to eT).set (y1.mono (ex_hide (x2.trans eT))) hi
    obtain ⟨p, x0, hp, hs, hv, t, b, nn⟩ := s3.mu.at hk
    cases t with | @d kvs _ t => ?_
    refine ⟨T, _, rfl, SqT.of upd_same, rfl, v1, _, rfl, v2, _, rfl, .ref p, hs, ?_⟩
    refine h3 B ps _ _ s3 _ fun w H4 s4 x4 y4 => ?_
    cases dd_int y4
    refine ⟨p, _, rfl, .inl ⟨kvs, .inl n, x4 _ _ hv, rfl, by rw [dks_len t]; exact hl, rfl⟩, rfl, ?_⟩
    exact q _ _ ps (s4.put hk hp (.d (dks_put n (t.mono (ex_hide x4)) (y2.mono (ex_hide (eT.trans x4))))))⟩
/-- x[i] = e, e drawn -/
theorem xn_item {j i : Nat} {es : List PyData} {m : Nat} {nn : Int} (hk : M[j]? = some (i, .l es)) (h : ∀ O, EvU K O u 0 te ds k R) (h2 : ∀ x, EvM K [] (XS M u x) ti ds (.int nn)) (hj : ixN es.length nn = some m) : XvN K u k (tAsg te (gSub (tVar i) ti rSetL)) M ds (fun M' ds' => ds' = ds ∧ ∃ e, R e ∧ M' = M.set j (i, .l (es.set m e))) := fun B D ps σ H n s hn q =>
  h (ps ++ []) σ H n s.en s.owA s.at hn _ fun v d H1 r Dr x => by
    obtain ⟨y, s1, c⟩ := s.draw Dr
    have jl : j < M.length := (List.getElem?_eq_some_iff.mp hk).1
    have hk2 : (XS M u y)[j]? = some (i, .l es) := by
      rw [List.getElem?_append_left jl]
      exact hk
    obtain ⟨p, x0, hp, hs, hv, t, b, _⟩ := s1.mu.at hk2
    cases t with | @l vs _ t => ?_
    refine ⟨.ref p, hs, ?_⟩
    refine h2 y B ps σ H1 s1 _ fun w H2 s2 e2 z => ⟨p, vs, nn, m, rfl, dd_int z, e2 _ _ hv, by rw [t.length]; exact hj, ?_⟩
    refine q _ _ σ _ ps ⟨rfl, d, r, rfl⟩ ⟨y, ?_, c⟩
    have e3 : XS (M.set j (i, .l (es.set m d))) u y = (XS M u y).set j (i, .l (es.set m d)) := by
      rw [List.set_append_left _ _ jl]
    rw [e3]
    exact s2.put hk2 hp (.l ((t.mono (ex_hide e2)).set (x.mono (ex_hide e2)) m))
/-- x, y = two drawn ones -/
theorem xn_par {i j : Nat} {t : TA} {S : PyData → PyData → Prop} (h : ∀ O, EvAU K O u 0 t ds k (fun es => ∃ a b, es = [a, b] ∧ S a b)) (hi : ∀ m ∈ M, m.1 ≠ i) (hj : ∀ m ∈ M, m.1 ≠ j) (i0 : i ≠ 0) (j0 : j ≠ 0) :
    XvN K u k (tPar i j t) M ds (fun M' ds' => M' = M ∧ ∃ a b, S a b ∧ ds' = (ds.set i (some a)).set j (some b)) := fun B D ps σ H n s hn q =>
  h (ps ++ []) σ H n s.en s.owA s.at hn _ fun vs es H1 r Dr xs => by
    obtain ⟨a, b, rfl, sab⟩ := r
    obtain ⟨y, s1, c⟩ := s.draw Dr
    cases xs with
    | cons x1 t1 =>
      cases t1 with
      | cons x2 t2 =>
        cases t2
        have all : ∀ {z : Nat}, (∀ m ∈ M, m.1 ≠ z) → z ≠ 0 → ∀ m ∈ XS M u y, m.1 ≠ z := fun {z} hz z0 m hm => by
          rcases List.mem_append.mp hm with hm | hm
          · exact hz m hm
          · rw [List.mem_singleton.mp hm]
            exact Ne.symm z0
        exact ⟨_, _, rfl, q M _ _ H1 ps ⟨rfl, a, b, sab, rfl⟩ ⟨y, (s1.set x1 (all hi i0)).set x2 (all hj j0), c⟩⟩
/-- x = f(source, e), e read out of mutables -/
theorem xn_callI {i m : Nat} {pre : List PyData → Prop} {Rf : List PyData → PyData → Prop} {E : XK} {nn : Int} (ha : ∀ x, EvM K [] (XS M u x) ta ds (.int nn)) (hm : 1 = m) (hp : pre [.int nn]) (hi : ∀ m ∈ M, m.1 ≠ i) (h0 : i ≠ 0) :
    XvN K u k (tAsg (tCall (spHide (spU K m k pre Rf)) [] E (tCons (tVar 0) (tCons ta tNil))) (gName i)) M ds (fun M' ds' => M' = M ∧ ∃ d, Rf [.int nn] d ∧ ds' = ds.set i (some d)) := fun B D ps σ H n s hn q => by
  obtain ⟨x, s, c⟩ := s
  obtain ⟨h1, h2, h3, hb⟩ := XT.src s
  refine ⟨.ref u, h2, ha x B ps σ H s _ fun v H1 s1 e1 y => ?_⟩
  cases dd_int y
  have st : XT K B u M ps σ H1 ds n := ⟨x, s1, c⟩
  have z := eu_call (K := K) (o := ps ++ []) (u := u) (iu := 0) (ds := ds) (k := k) (m := m) (pre := pre) (Rf := Rf) (E := E) (t := tCons (tC (.int nn)) tNil) (ea_cons ev_int ea_nil) hm hp σ H1 n st.en st.owA st.at hn (fun v H2 => D.nx (σ.set i (some v)) H2) fun v d H2 r Dr y => by
    obtain ⟨x', s2, c2⟩ := st.draw Dr
    refine q M _ _ H2 ps ⟨rfl, d, r, rfl⟩ ⟨x', s2.set y fun m hm => ?_, c2⟩
    rcases List.mem_append.mp hm with hm | hm
    · exact hi m hm
    · rw [List.mem_singleton.mp hm]
      exact Ne.symm h0
  obtain ⟨w, hw, z⟩ := z
  rw [h2] at hw
  cases hw
  exact z
/-- i, j, k, l = a drawn value, data, a new list, a new dict -/
theorem xn_four {t1 t2 t3 : TE} {i j a b : Nat} {d2 : PyData} {es : List PyData} (h1 : ∀ O, EvU K O u 0 t1 ds k R) (h2 : ∀ O, EvD K O t2 ds d2) (h3 : ∀ O, EvF K O t3 ds es) (h0 : i ≠ 0 ∧ j ≠ 0 ∧ a ≠ 0 ∧ b ≠ 0) (hab : a ≠ b) (la : a < ds.length) (lb : b < ds.length) :
    XvN K u k (tAsg (tTup (tCons t1 (tCons t2 (tCons t3 (tCons tDNewK tNil))))) (gTup K 4 (gCons (gName i) (gCons (gName j) (gCons (gName a) (gCons (gName b) gNil)))))) [] ds (fun M' ds' => M' = [(b, .d []), (a, .l es)] ∧ ∃ d, R d ∧ ds' = (((ds.set i (some d)).set j (some d2)).set a none).set b none) := fun B D ps σ H n s hn q =>
  h1 (ps ++ []) σ H n s.en s.owA s.at hn _ fun v1 d1 H1 r Dr y1 => by
    obtain ⟨x, s1, c⟩ := s.draw Dr
    refine h2 (ps ++ []) σ H1 s1.en s1.owA _ fun v2 H2 e2 W2 y2 => ?_
    refine h3 (ps ++ []) σ H2 (s1.en.mono (ex_hide e2)) W2 _ fun p3 vs H3 H3' e3 W3 hp3 eq t => ?_
    subst eq
    refine fun p4 hp4 => ⟨by show 4 ≤ sizeLine; decide, fun T hT => ?_⟩
    have x0 : ∀ z, z ≠ 0 → ∀ m ∈ XS [] u x, m.1 ≠ z := fun z hz m hm => by
      rw [List.mem_singleton.mp hm]
      exact Ne.symm hz
    have s2 := ((s1.to (e2.trans e3)).set (y1.mono (ex_hide (e2.trans e3))) (x0 i h0.1)).set (y2.mono (ex_hide e3)) (x0 j h0.2.1)
    have s3 := (s2.mv hp3 (.l t)).bind (x0 a h0.2.2.1) (by rw [List.length_set, List.length_set]; exact la)
    have s4 := (s3.mv hp4 (.d .nil)).bind (i := b) (fun m hm => by
      rcases List.mem_cons.mp hm with rfl | hm
      · exact hab
      · exact x0 b h0.2.2.2 m hm) (by rw [List.length_set, List.length_set, List.length_set]; exact lb)
    have s5 := s4.to (ex_new (x := .tup [v1, v2, .ref p3, .ref p4]) hT)
    refine ⟨T, _, rfl, SqT.of upd_same, rfl, _, _, rfl, _, _, rfl, _, _, rfl, _, _, rfl, rfl, ?_⟩
    exact q _ _ _ _ (p4 :: p3 :: ps) ⟨rfl, d1, r, rfl⟩ ⟨x, s5, c⟩
/-- for i in range(..): draws before and within -/
theorem xn_for {wi : TI} {tb : TS} {i L l k : Nat} (Inv : Nat → ML → List (Option PyData) → Prop) (hi : ∀ O, EiU K O u 0 wi ds k (fun es => ∃ N : Nat, N ≤ L ∧ es = rngD N)) (inv0 : Inv 0 M ds) (i0 : i ≠ 0) (sl : ∀ j M ds, Inv j M ds → ∀ m ∈ M, m.1 ≠ i)
    (ht : ∀ j M' ds', j < L → Inv j M' ds' → XvN K u l tb M' (ds'.set i (some (.int ((0 : Int) + (j : Nat))))) (fun M2 d2 => Inv (j + 1) M2 d2)) : XvN K u (k + L * l) (tFor wi (gName i) tb) M ds (fun M' ds' => ∃ j, j ≤ L ∧ Inv j M' ds') := fun B D ps σ H n s hn q =>
  hi (ps ++ []) σ H n s.en s.owA s.at (by omega) _ fun J H1 es hs Dr it => by
    obtain ⟨N, hN, rfl⟩ := hs
    obtain ⟨x1, s1, c1⟩ := s.draw Dr
    have xb := s1.inner.1
    refine ⟨fun j m σ' H' => m = N - j ∧ j ≤ N ∧ ∃ M' ds' ps' n', Inv j M' ds' ∧ n' ≤ n + k + j * l ∧ XT K (hide H1 (ps ++ [])) u M' ps' σ' H' ds' n', ⟨N, rfl, Nat.zero_le _, M, ds, ps, n + k, inv0, by omega, x1, s1.inner.2, c1⟩, fun j m σ' H' w => ?_⟩
    obtain ⟨rfl, hj, M', ds', ps', n', iv, hn', x, s', c⟩ := w
    have it2 := it H' (ps' ++ []) s'.inner.1 s'.owA j
    have mulj : j * l ≤ L * l := Nat.mul_le_mul_right l (by omega)
    by_cases cl : j < N
    · have he : (rngD N)[j]? = some (.int ((0 : Int) + (j : Nat))) := by
        unfold rngD
        rw [List.getElem?_map, List.getElem?_range cl]
        rfl
      obtain ⟨go, yl⟩ := it2.1 _ he
      refine .inr ⟨go, fun σ2 H2 => ∃ M2 d2 p2 n2, Inv (j + 1) M2 d2 ∧ n2 ≤ n + k + (j + 1) * l ∧ XT K (hide H1 (ps ++ [])) u M2 p2 σ2 H2 d2 n2, fun σ2 H2 z => ⟨N - (j + 1), by omega, rfl, by omega, z⟩, fun v H2 y => ?_⟩
      obtain ⟨ex2, hx⟩ := yl v H2 y
      have s2 := (s'.to ex2).set (i := i) hx fun m hm => by
        rcases List.mem_append.mp hm with hm | hm
        · exact sl j M' ds' iv m hm
        · rw [List.mem_singleton.mp hm]
          exact Ne.symm i0
      have e1 : (j + 1) * l = j * l + l := by rw [Nat.add_mul, Nat.one_mul]
      have mulj2 : (j + 1) * l ≤ L * l := Nat.mul_le_mul_right l (by omega)
      refine ht j M' ds' (by omega) iv _ _ ps' _ H2 n' ⟨x, s2, c⟩ (by omega) fun M2 d2 σ4 H4 p4 iv2 s4 => ⟨M2, d2, p4, n' + l, iv2, by omega, s4⟩
    · refine .inl ⟨it2.2 ?_, q M' ds' σ' H' ps' ⟨j, by omega, iv⟩ ?_⟩
      · unfold rngD
        rw [List.length_map, List.length_range]
        omega
      · exact XT.up ⟨x, s'.base xb, c⟩ (by omega)
end
end Ph

namespace K2
open PySem PySem.Spec PyProof.Rows L2 Ph
section
variable {P : Program} {w : World} {K : PySem.W.Frag} {mg : Str → Option Value} {base : Heap}
abbrev s__law_calm : Stmt := top 26
abbrev N__law_calm : List Str := ["urn", "many", "pile", "changes", "text", "lap", "free", "place", "letter", "spot"]
theorem sc__law_calm : FnScope N__law_calm ["urn"] (defScope s__law_calm) := ⟨rfl, rfl, rfl, by decide +kernel, rfl, by decide +kernel, by decide +kernel⟩

def valI : PyData → Int
  | .int v => v
  | _ => 0
structure CI (m : Int) (j : Nat) (pl : List Int) (cs : List (Int × Int)) (ms : List (PyData × PyData)) : Prop where
  pl1 : ∀ p ∈ pl, 0 ≤ p ∧ p < m
  pl2 : pl.length ≤ j
  cs1 : ∀ c ∈ cs, 0 ≤ c.1 ∧ c.1 < m ∧ 0 ≤ c.2 ∧ c.2 ≤ 100
  cs2 : cs.length ≤ j
  ms1 : ms.length ≤ j
  val : ∀ p : Int, (dGet ms p).getD (.int 0) = .int (valI ((dGet ms p).getD (.int 0)))
  inp : ∀ p : Int, valI ((dGet ms p).getD (.int 0)) ≠ 0 → p ∈ pl
abbrev cds (m : Int) (pl : List Int) : List (Option PyData) := [none, some (.int m), some (.list (pl.map PyData.int)), none, none, none, none, none, none, none]
def CInv (m : Int) (j : Nat) (M : ML) (ds : List (Option PyData)) : Prop := ∃ pl cs ms, M = [(4, .d ms), (3, .l (cs.map chg))] ∧ ds = cds m pl ∧ CI m j pl cs ms
theorem ci_put {m : Int} {j : Nat} {pl pl2 : List Int} {cs : List (Int × Int)} {ms : List (PyData × PyData)} {p v : Int} (h : CI m j pl cs ms) (h0 : 0 ≤ p) (h1 : p < m) (v0 : 0 ≤ v) (v1 : v ≤ 100) (q1 : ∀ x ∈ pl2, 0 ≤ x ∧ x < m) (q2 : pl2.length ≤ j + 1) (q3 : ∀ x ∈ pl, x ≠ p → x ∈ pl2) (q4 : v ≠ 0 → p ∈ pl2) : CI m (j + 1) pl2 (cs ++ [(p, v)]) (dPut ms p (.int v)) := by
  have g : ∀ x : Int, (dGet (dPut ms p (.int v)) x).getD (.int 0) = if x = p then .int v else (dGet ms x).getD (.int 0) := fun x => by
    rw [dGet_put]
    split <;> rfl
  refine ⟨q1, q2, fun c hc => ?_, by rw [List.length_append]; have := h.cs2; show cs.length + 1 ≤ j + 1; omega, by have := dPut_len ms p (.int v); have := h.ms1; omega, fun x => ?_, fun x hx => ?_⟩
  · rcases List.mem_append.mp hc with hc | hc
    · exact h.cs1 c hc
    · cases List.mem_singleton.mp hc
      exact ⟨h0, h1, v0, v1⟩
  · rw [g]
    split
    · rfl
    · exact h.val x
  · rw [g] at hx
    by_cases c : x = p
    · rw [if_pos c] at hx
      rw [c]
      exact q4 hx
    · rw [if_neg c] at hx
      exact q3 x (h.inp x hx) c
theorem ok__law_calm {f : Addr} {fd : FuncData} (F : Fun K "_law_calm" "_law_calm" s__law_calm f fd) (T : Blt mg) (C : Cal P w K mg base "_law_take" 1 ["urn", "low_so"] (spU K 1 1 pre_take R_take)) (C2 : Cal P w K mg base "_law_of" 2 ["urn", "some_so"] (spU K 1 1 pre_of R_of)) : FnOk P w K mg base CX0 3 f fd ["urn"] (spU K 0 100 (fun as => as = []) R_calm) := by
  refine fn_draw F sc__law_calm rfl fun cdv A outer s H E hr => ?_
  have hu64 : (A.deeper (envOfC "_law_calm" (defScope s__law_calm) s.heap.objs.size f cdv)).units + 64 < cLine := hr.units
  have hu1 : (A.deeper (envOfC "_law_calm" (defScope s__law_calm) s.heap.objs.size f cdv)).units + 1 < cLine := by omega
  refine ⟨_, (pss_cons (ps_asg (pe_tup (pa_cons (pe_op op_add pe_int (pe_cal C (hr.mono (by decide)) (by rfl) (pa_cons (pv 0) (pa_cons pe_int pa_nil)))) (pa_cons (pe_lst pa_nil) (pa_cons (pe_lst pa_nil) (pa_cons pe_dnewK pa_nil))))) (pg_tup rfl (pgs_cons (pg_name (i := 1) sc__law_calm.nd rfl (Or.inl rfl)) (pgs_cons (pg_name (i := 2) sc__law_calm.nd rfl (Or.inl rfl)) (pgs_cons (pg_name (i := 3) sc__law_calm.nd rfl (Or.inl rfl)) (pgs_cons (pg_name (i := 4) sc__law_calm.nd rfl (Or.inr rfl)) pgs_nil))))))
      (pss_cons (ps_for PassesOwn.never rfl (pi_range1 rfl T.range (pa_cons (pe_cal C (hr.mono (by decide)) (by rfl) (pa_cons (pv 0) (pa_cons pe_int pa_nil))) pa_nil)) (pg_name (i := 5) sc__law_calm.nd rfl (Or.inl rfl)) (pss_cons (ps_setLc (i := 6) (own := [("place", 7)]) (g := (gName 7)) (tt := (tTest (tOp _ (tDGet2 (tVar 4) (tVar 7) (tC (.int 0))) (tC (.int 0))))) (te := (tVar 7)) rfl sc__law_calm.nd rfl rfl (sw_true rfl rfl rfl (by decide +kernel)) (pi_range1 rfl T.range (pa_cons (pv 1) pa_nil)) (blkOk_by (N := N__law_calm) (sc := defScope s__law_calm) (by decide +kernel)) (fun _ _ _ _ _ => by exact (pg_name (i := 7) sc__law_calm.nd rfl (Or.inl rfl))) (fun _ _ _ _ _ => by exact (pts_one (pt_cmpR op_eq (pe_dget2 hu1 (pv 4) (pv 7) pe_int ⟨rfl, rfl, rfl, rfl⟩) pe_int (nomark _)))) (fun _ _ _ _ _ => by exact (pv 7)))
      (pss_one (ps_if (PW.pt (pw_and (pt_cmpR op_gt (pe_callB call_len_seq (by rfl) T.len PySem.boot_len (pa_cons (pv 2) pa_nil)) pe_int (nomark _)) (pw_and1 (PW.pt (pw_or (pt_cmpR op_eq (pe_callB call_len_seq (by rfl) T.len PySem.boot_len (pa_cons (pv 6) pa_nil)) pe_int (nomark _)) (pw_or1 (pt_cmpR op_eq (pe_cal C (hr.mono (by decide)) (by rfl) (pa_cons (pv 0) (pa_cons pe_int pa_nil))) pe_int (nomark _)))))))) (pss_cons (ps_set (i := 7) sc__law_calm.nd rfl (Or.inl rfl) (pe_ix ix_list (pv 2) (pe_op op_sub (pe_callB call_len_seq (by rfl) T.len PySem.boot_len (pa_cons (pv 2) pa_nil)) pe_int) (fun _ _ => rfl)))
      (pss_cons (ps_asg (pe_tup (pa_cons (pe_slice sl_list (pv 2) po_none (po_some (pe_un un_neg pe_int))) (pa_cons pe_int pa_nil))) (pg_tup rfl (pgs_cons (pg_name (i := 2) sc__law_calm.nd rfl (Or.inl rfl)) (pgs_cons (pg_sub (pv 4) (pv 7) (set_dict hu1)) pgs_nil))))
      (pss_one (ps_expr (pe_bm PySem.F.plainAttrs_list PySem.F.slot_list_append PySem.F.type_list_append mt_append (pv 3) (pa_cons (pe_tup (pa_cons (pv 7) (pa_cons pe_int pa_nil))) pa_nil)))))) (pss_cons (ps_par (i := 7) (j := 8) (by rfl) sc__law_calm.nd rfl rfl (by decide) rfl rfl (pa_cons (pe_cal C2 (hr.mono (by decide)) (by rfl) (pa_cons (pv 0) (pa_cons (pv 6) pa_nil))) (pa_cons (pe_op op_add pe_int (pe_cal C (hr.mono (by decide)) (by rfl) (pa_cons (pv 0) (pa_cons pe_int pa_nil)))) pa_nil)) (by rfl))
      (pss_cons (ps_asg (pe_tup (pa_cons (pe_op op_cat (pv 2) (pe_lst (pa_cons (pv 7) pa_nil))) (pa_cons (pv 8) pa_nil))) (pg_tup rfl (pgs_cons (pg_name (i := 2) sc__law_calm.nd rfl (Or.inl rfl)) (pgs_cons (pg_sub (pv 4) (pv 7) (set_dict hu1)) pgs_nil))))
      (pss_one (ps_expr (pe_bm PySem.F.plainAttrs_list PySem.F.slot_list_append PySem.F.type_list_append mt_append (pv 3) (pa_cons (pe_tup (pa_cons (pv 7) (pa_cons (pv 8) pa_nil))) pa_nil))))))))))
      (pss_cons (ps_if (PW.pt (pw_and (pt_cmpR op_gt (pe_callB call_len_seq (by rfl) T.len PySem.boot_len (pa_cons (pv 3) pa_nil)) pe_int (nomark _)) (pw_and1 (pt_cmpR op_eq (pe_cal C (hr.mono (by decide)) (by rfl) (pa_cons (pv 0) (pa_cons pe_int pa_nil))) pe_int (nomark _))))) (pss_cons (ps_set (i := 9) sc__law_calm.nd rfl (Or.inl rfl) (pe_cal C (hr.mono (by decide)) (by rfl) (pa_cons (pv 0) (pa_cons (pe_callB call_len_seq (by rfl) T.len PySem.boot_len (pa_cons (pv 3) pa_nil)) pa_nil))))
      (pss_one (ps_asg (pe_tup (pa_cons (pe_cal C (hr.mono (by decide)) (by rfl) (pa_cons (pv 0) (pa_cons (pv 1) pa_nil))) (pa_cons (pe_cal C (hr.mono (by decide)) (by rfl) (pa_cons (pv 0) (pa_cons pe_int pa_nil))) pa_nil))) (pg_sub (pv 3) (pv 9) set_list)))) pss_nil)
      (pss_one (ps_ret (pe_tup (pa_cons (pv 1) (pa_cons (pe_callTy call_tuple_of (by rfl) T.tuple (by decide +kernel) (pa_cons (pv 3) pa_nil)) pa_nil)))))))), fun u as hl hp => ?_⟩
  subst hp
  refine su_x (xr_more (k := 0 + 1 + 29) (l := 100) (xr_seq (k := 0 + 1) (xn_four (d2 := .list (([] : List Int).map PyData.int)) (es := ([] : List (Int × Int)).map chg) (R := fun d => ∃ m : Int, d = .int m ∧ 2 ≤ m ∧ m ≤ 5) (fun O => ?t1) (fun O => ev_lst ea_nil (by show 0 ≤ sizeLine; decide)) (fun O => ef_lst ea_nil (by show 0 ≤ sizeLine; decide)) (by decide) (by decide) (by show 3 < 10; decide) (by show 4 < 10; decide)) (l := 29) fun M' ds' h => ?_) (by decide)) rfl
  case t1 =>
    exact eu_op (eu_pure ev_int) (eu_call (ea_cons ev_int ea_nil) rfl ⟨4, rfl, by decide, by decide⟩) fun a b ha hb => by
      obtain ⟨low, r, e1, rfl, r0, r1⟩ := hb
      cases e1
      subst ha
      exact ⟨_, ⟨_, rfl, by omega, by omega⟩, od_add⟩
  obtain ⟨rfl, d, ⟨m, rfl, m1, m2⟩, rfl⟩ := h
  refine xr_more (k := 1 + 8 * 3 + 4) (xr_seq (k := 1 + 8 * 3) (xn_for (i := 5) (L := 8) (l := 3) (k := 1) (CInv m) (fun O => eiu_rng (M := 8) (eu_imp (eu_call (ea_cons ev_int ea_nil) rfl ⟨9, rfl, by decide, by decide⟩) fun d h => take_nat (M := 8) (by decide) h) (by decide)) ⟨[], [], [], rfl, rfl, ⟨fun p h => (by cases h), by decide, fun c h => (by cases h), by decide, by decide, fun p => rfl, fun p h => absurd rfl h⟩⟩ (by decide) ?sl ?ht) (l := 4) fun M' ds' h => ?_) (by decide)
  case sl =>
    rintro j M ds ⟨pl, cs, ms, rfl, rfl, ci⟩
    intro x h; simp [List.eraseIdx] at h; first | (subst h; simp; done) | (cases h with | inl h => (subst h; simp) | inr h => (subst h; simp)) | (cases h with | inl h => (subst h; simp) | inr h => (cases h with | inl h => (subst h; simp) | inr h => (subst h; simp))) | (cases h with | inl h => (subst h; simp) | inr h => (cases h with | inl h => (subst h; simp) | inr h => (cases h with | inl h => (subst h; simp) | inr h => (subst h; simp))))
  case ht =>
    rintro j M ds hj ⟨pl, cs, ms, rfl, rfl, ci⟩
    let vv : Int → Int := fun x => valI ((dGet ms x).getD (.int 0))
    let FR : List Int := ((List.range m.toNat).filter fun i => decide (vv ((0 : Int) + (i : Nat)) = 0)).map fun i => (0 : Int) + (i : Nat)
    have fr1 : ∀ x ∈ FR, 0 ≤ x ∧ x < m := fun x hx => by
      obtain ⟨i, hi, rfl⟩ := List.mem_map.mp hx
      have z := List.mem_range.mp (List.mem_filter.mp hi).1
      exact ⟨by omega, by omega⟩
    have fr2 : pl = [] → FR ≠ [] := fun e z => by
      have q : (0 : Nat) ∈ (List.range m.toNat).filter fun i => decide (vv ((0 : Int) + (i : Nat)) = 0) := by
        refine List.mem_filter.mpr ⟨List.mem_range.mpr (by omega), decide_eq_true (Classical.not_not.mp fun c => ?_)⟩
        have y := ci.inp _ c
        rw [e] at y
        cases y
      have y : ((0 : Int) + ((0 : Nat) : Int)) ∈ FR := List.mem_map.mpr ⟨0, q, rfl⟩
      rw [z] at y
      cases y
    have fr3 : FR.length ≤ 1000 := by
      show (List.map _ _).length ≤ 1000
      rw [List.length_map]
      refine Nat.le_trans (List.length_filter_le ..) ?_
      rw [List.length_range]
      omega
    refine xn_imp (xn_seq (k := 0) (l := 3) (xn_pure (M' := [(4, .d ms), (3, .l (cs.map chg))]) (fun x => mn_set (i := 6) (e := .list (FR.map PyData.int)) (em_dk (k := 0) (i := 4) rfl (fun O => ?f1) ?f2) (by intro x h; simp [List.eraseIdx] at h; first | (subst h; simp; done) | (cases h with | inl h => (subst h; simp) | inr h => (subst h; simp)) | (cases h with | inl h => (subst h; simp) | inr h => (cases h with | inl h => (subst h; simp) | inr h => (subst h; simp))) | (cases h with | inl h => (subst h; simp) | inr h => (cases h with | inl h => (subst h; simp) | inr h => (cases h with | inl h => (subst h; simp) | inr h => (subst h; simp))))))) fun M' ds' h => ?_) (fun _ _ h => h) (by decide)
    case f1 =>
      have ef : FR.map PyData.int = ((List.range m.toNat).filter fun i => decide (vv ((0 : Int) + (i : Nat)) = 0)).map fun i => PyData.int ((0 : Int) + (i : Nat)) := List.map_map
      rw [ef]
      refine ev_lc (fun i : Nat => PyData.int ((0 : Int) + (i : Nat))) (xs := List.range m.toNat) (fun i => decide (vv ((0 : Int) + (i : Nat)) = 0)) (fun i => PyData.int ((0 : Int) + (i : Nat))) _ (ei_rng1 (ev_var (by rfl)) (by omega) (by omega)) (by rw [List.length_range]; omega) (gw_name (by simp)) (fun e _ => gt_name) (fun e _ o => ?_) (fun e _ _ o => (ev_var (by rfl)))
      refine eb_test (ev_op (a := .int (vv ((0 : Int) + (e : Nat)))) (ev_to (ev_dGet2 (ms := ms) (k := (0 : Int) + (e : Nat)) (ev_var (by rfl)) (ev_var (by rfl)) ev_int) (ci.val _)) ev_int od_eqI)
    case f2 =>
      intro e he
      obtain ⟨i, _, rfl⟩ := List.mem_map.mp he
      exact fz_scal rfl
    obtain ⟨rfl, rfl⟩ := h
    refine xn_if (k := 1) (l := 2) (P := fun b => (b = true → pl ≠ []) ∧ (b = false → FR ≠ [])) ?tst (fun hP => ?_) fun hP => ?_
    case tst =>
      refine xb_and (k := 0) (l := 1) (P2 := fun b => b = false → FR ≠ []) (xb_pure (b := decide ((0 : Int) < ((pl.map PyData.int).length : Nat))) fun x => bm_pure fun O => eb_test (ev_op (ev_cb (ea_cons (ev_var (by rfl)) ea_nil) cb_lenL) ev_int od_gt)) (fun h => xb_or (k := 0) (l := 1) (P2 := fun _ => True) (xb_pure (b := decide ((((FR.map PyData.int).length : Nat) : Int) = 0)) fun x => bm_pure fun O => eb_test (ev_op (ev_cb (ea_cons (ev_var (by rfl)) ea_nil) cb_lenL) ev_int od_eqI))
        (fun h2 => xb_draw fun O => eu_op (eu_call (ea_cons ev_int ea_nil) rfl ⟨3, rfl, by decide, by decide⟩) (eu_pure ev_int) fun a b ha hb => ?_) (fun _ z => nomatch z) (fun b h2 _ _ z => ?_)) (fun h => ?_) (fun b h h2 => ?_)
      · obtain ⟨low, r, e1, rfl, r0, r1⟩ := ha
        subst hb
        exact ⟨_, ⟨_, rfl, True.intro⟩, od_eqI⟩
      · rw [z] at h2
        have q := of_decide_eq_false h2.symm
        exact q rfl
      · have q := of_decide_eq_false h.symm
        rw [List.length_map] at q
        have e : pl = [] := List.eq_nil_of_length_eq_zero (by omega)
        exact ⟨fun z => (nomatch z), fun _ => fr2 e⟩
      · refine ⟨fun _ z => ?_, h2⟩
        have q := of_decide_eq_true h.symm
        rw [z] at q
        exact absurd q (by decide)
    · have ne := hP.1 rfl
      obtain ⟨pv, hpv⟩ : ∃ pv, pl[pl.length - 1]? = some pv := ⟨_, List.getElem?_eq_getElem (by have := List.length_pos_iff.mpr ne; omega)⟩
      have sp : pl = pl.dropLast ++ [pv] := by
        have z := List.dropLast_concat_getLast ne
        have y : pl.getLast ne = pv := by
          rw [List.getLast_eq_getElem]
          exact (List.getElem?_eq_some_iff.mp hpv).2
        rw [y] at z
        exact z.symm
      have mv : pv ∈ pl := List.mem_of_getElem? hpv
      obtain ⟨b0, b1⟩ := ci.pl1 pv mv
      have lp := List.length_pos_iff.mpr ne
      have ix : atI (pl.map PyData.int) ((((pl.map PyData.int).length : Nat) : Int) - 1) = some (.int pv) := by
        rw [List.length_map, show ((pl.length : Nat) : Int) - 1 = ((pl.length - 1 : Nat) : Int) by omega]
        refine atI_nat ?_
        rw [List.getElem?_map, hpv]
        rfl
      refine xn_imp (xn_pure (M' := [(4, .d (dPut ms pv (.int 0))), (3, .l ((cs ++ [(pv, 0)]).map chg))]) (ds' := cds m pl.dropLast) fun x => ?_) (fun M2 d2 h => ⟨pl.dropLast, cs ++ [(pv, 0)], dPut ms pv (.int 0), h.1, h.2, ci_put ci b0 b1 (by decide) (by decide) (fun x hx => ci.pl1 x (List.dropLast_subset _ hx)) (by rw [List.length_dropLast]; have := ci.pl2; omega) (fun x hx nx => ?_) (fun z => absurd rfl z)⟩) (by decide)
      · refine mn_to (mn_forget 5 (mn_forget 6 (mn_forget 7 (mn_seq (mn_set (i := 7) (e := .int pv) (em_pure fun O => ?g1) (by intro x h; simp [List.eraseIdx] at h; first | (subst h; simp; done) | (cases h with | inl h => (subst h; simp) | inr h => (subst h; simp)) | (cases h with | inl h => (subst h; simp) | inr h => (cases h with | inl h => (subst h; simp) | inr h => (subst h; simp))) | (cases h with | inl h => (subst h; simp) | inr h => (cases h with | inl h => (subst h; simp) | inr h => (cases h with | inl h => (subst h; simp) | inr h => (subst h; simp)))))) (mn_seq (mn_namePut (k := 0) (i := 2) (j := 4) (n := pv) (e1 := .list (pl.dropLast.map PyData.int)) (e2 := .int 0) rfl (em_pure fun O => ?g2) (em_pure fun O => ev_int) (by intro x h; simp [List.eraseIdx] at h; first | (subst h; simp; done) | (cases h with | inl h => (subst h; simp) | inr h => (subst h; simp)) | (cases h with | inl h => (subst h; simp) | inr h => (cases h with | inl h => (subst h; simp) | inr h => (subst h; simp))) | (cases h with | inl h => (subst h; simp) | inr h => (cases h with | inl h => (subst h; simp) | inr h => (cases h with | inl h => (subst h; simp) | inr h => (subst h; simp))))) (em_pure fun O => (ev_var (by rfl))) ?g3) (mn_append (k := 1) (e := chg (pv, 0)) rfl (em_pure fun O => ?g4) ?g5)))))) ?g6 rfl
        case g1 => exact ev_op (ev_var (by rfl)) (ev_op (ev_cb (ea_cons (ev_var (by rfl)) ea_nil) cb_lenL) ev_int od_sub) (od_ixL ix)
        case g2 => exact ev_new (ef_initI (ev_var (by rfl)))
        case g3 => have := ci.ms1; rw [sizeLine_eq]; omega
        case g4 => exact ev_tup (ea_cons (ev_var (by rfl)) (ea_cons ev_int ea_nil)) (by show 2 ≤ sizeLine; decide)
        case g5 => have := ci.cs2; rw [List.length_map, sizeLine_eq]; omega
        case g6 =>
          show [(4, MC.d _), (3, MC.l (cs.map chg ++ [chg (pv, 0)])), (0, MC.f u x)] = _
          rw [List.map_append]
          rfl
      · rw [sp] at hx
        exact (List.mem_append.mp hx).resolve_right fun z => nx (List.mem_singleton.mp z)
    · have ne := hP.2 rfl
      have lf := List.length_pos_iff.mpr ne
      refine xn_imp (k := 2 + 0) (xn_seq (k := 2) (l := 0) (xn_par (i := 7) (j := 8) (k := 2) (S := fun a b => (∃ x, x ∈ FR ∧ a = .int x) ∧ ∃ y : Int, b = .int y ∧ 1 ≤ y ∧ y ≤ 3) (fun O => ?pr) (by intro x h; simp [List.eraseIdx] at h; first | (subst h; simp; done) | (cases h with | inl h => (subst h; simp) | inr h => (subst h; simp)) | (cases h with | inl h => (subst h; simp) | inr h => (cases h with | inl h => (subst h; simp) | inr h => (subst h; simp))) | (cases h with | inl h => (subst h; simp) | inr h => (cases h with | inl h => (subst h; simp) | inr h => (cases h with | inl h => (subst h; simp) | inr h => (subst h; simp))))) (by intro x h; simp [List.eraseIdx] at h; first | (subst h; simp; done) | (cases h with | inl h => (subst h; simp) | inr h => (subst h; simp)) | (cases h with | inl h => (subst h; simp) | inr h => (cases h with | inl h => (subst h; simp) | inr h => (subst h; simp))) | (cases h with | inl h => (subst h; simp) | inr h => (cases h with | inl h => (subst h; simp) | inr h => (cases h with | inl h => (subst h; simp) | inr h => (subst h; simp))))) (by decide) (by decide)) (S2 := fun M2 d2 => CInv m (j + 1) M2 d2) fun M' ds' h => ?_) (fun _ _ h => h) (by decide)
      case pr =>
        have z := eau_cons (K := K) (o := O) (u := u) (iu := 0) (ds := [none, some (.int m), some (.list (pl.map PyData.int)), none, none, some (.int ((0 : Int) + (j : Nat))), some (.list (FR.map PyData.int)), none, none, none]) (eu_call (E := E0) (k := 1) (m := 1) (pre := pre_of) (Rf := R_of) (ea_cons (ev_var (i := 6) (d := .list (FR.map PyData.int)) (by rfl)) ea_nil) rfl ⟨_, rfl, by rw [List.length_map]; omega, by rw [List.length_map]; omega⟩)
          (eau_cons (eu_op (r := rI0 fun i j => .int (i + j)) (R := fun d => ∃ y : Int, d = .int y ∧ 1 ≤ y ∧ y ≤ 3) (eu_pure (ev_int (i := 1))) (eu_call (E := E0) (k := 1) (m := 1) (pre := pre_take) (Rf := R_take) (ea_cons (ev_int (i := 3)) ea_nil) rfl ⟨3, rfl, by decide, by decide⟩) fun a b ha hb => by
            obtain ⟨r, rfl, r0, r1⟩ := take_int hb
            subst ha
            exact ⟨_, ⟨_, rfl, by omega, by omega⟩, od_add⟩) eau_nil)
        exact fun σ H n E W A hn Q q => z σ H n E W A hn Q fun vs es H2 s D xs0 => q vs es H2 (by
          obtain ⟨d, r, rfl, ha, d2, r2, rfl, hb, rfl⟩ := s
          obtain ⟨es, e1, hm⟩ := ha
          cases e1
          obtain ⟨w0, hw, rfl⟩ := List.mem_map.mp hm
          exact ⟨_, d2, rfl, ⟨w0, hw, rfl⟩, hb⟩) D xs0
      obtain ⟨rfl, a, b, ⟨⟨x, hx, rfl⟩, y, rfl, y1, y2⟩, rfl⟩ := h
      obtain ⟨b0, b1⟩ := fr1 x hx
      refine xn_imp (xn_pure (M' := [(4, .d (dPut ms x (.int y))), (3, .l ((cs ++ [(x, y)]).map chg))]) (ds' := cds m (pl ++ [x])) fun xx => ?_) (fun M2 d2 h => ⟨pl ++ [x], cs ++ [(x, y)], dPut ms x (.int y), h.1, h.2, ci_put ci b0 b1 (by omega) (by omega) (fun z hz => ?_) (by rw [List.length_append]; have := ci.pl2; show pl.length + 1 ≤ j + 1; omega) (fun z hz _ => List.mem_append_left _ hz) (fun _ => List.mem_append_right _ (List.mem_singleton.mpr rfl))⟩) (by decide)
      · refine mn_to (mn_forget 5 (mn_forget 6 (mn_forget 7 (mn_forget 8 (mn_seq (mn_namePut (k := 0) (i := 2) (j := 4) (n := x) (e1 := .list ((pl ++ [x]).map PyData.int)) (e2 := .int y) rfl (em_pure fun O => ?g2) (em_pure fun O => (ev_var (by rfl))) (by intro x h; simp [List.eraseIdx] at h; first | (subst h; simp; done) | (cases h with | inl h => (subst h; simp) | inr h => (subst h; simp)) | (cases h with | inl h => (subst h; simp) | inr h => (cases h with | inl h => (subst h; simp) | inr h => (subst h; simp))) | (cases h with | inl h => (subst h; simp) | inr h => (cases h with | inl h => (subst h; simp) | inr h => (cases h with | inl h => (subst h; simp) | inr h => (subst h; simp))))) (em_pure fun O => (ev_var (by rfl))) ?g3) (mn_append (k := 1) (e := chg (x, y)) rfl (em_pure fun O => ?g4) ?g5)))))) ?g6 rfl
        case g2 =>
          refine ev_to (ev_op (ev_var (by rfl)) (ev_lst (ea_cons (ev_var (by rfl)) ea_nil) (by show 1 ≤ sizeLine; decide)) (od_cat (as := pl.map PyData.int) (bs := [.int x]) ?_)) ?_
          · have := ci.pl2
            rw [List.length_map, sizeLine_eq]
            show pl.length + 1 ≤ _
            omega
          · rw [List.map_append]
            rfl
        case g3 => have := ci.ms1; rw [sizeLine_eq]; omega
        case g4 => exact ev_tup (ea_cons (ev_var (by rfl)) (ea_cons (ev_var (by rfl)) ea_nil)) (by show 2 ≤ sizeLine; decide)
        case g5 => have := ci.cs2; rw [List.length_map, sizeLine_eq]; omega
        case g6 =>
          show [(4, MC.d _), (3, MC.l (cs.map chg ++ [chg (x, y)])), (0, MC.f u xx)] = _
          rw [List.map_append]
          rfl
      · rcases List.mem_append.mp hz with hz | hz
        · exact ci.pl1 z hz
        · cases List.mem_singleton.mp hz
          exact ⟨b0, b1⟩
  obtain ⟨j, hj, pl, cs, ms, rfl, rfl, ci⟩ := h
  have good : ∀ cs' : List (Int × Int), cs'.length ≤ 8 → (∀ c ∈ cs', 0 ≤ c.1 ∧ c.1 < m ∧ 0 ≤ c.2 ∧ c.2 ≤ 100) → Good m cs' := fun cs' l h => ⟨by omega, by omega, by omega, h⟩
  have c2 := ci.cs2
  refine xr_seq (k := 4) (l := 0) (xn_if (k := 1) (l := 3) (P := fun b => b = true → cs ≠ []) (S := fun M' ds' => ∃ cs' z, M' = [(4, .d ms), (3, .l (cs'.map chg))] ∧ ds' = (cds m pl).set 9 z ∧ Good m cs') ?tst (fun hP => ?th) (fun _ => ?el)) fun M' ds' h => ?_
  case tst =>
    refine xb_and (k := 0) (l := 1) (P2 := fun _ => True) (xb_pure (b := decide ((0 : Int) < ((cs.map chg).length : Nat))) fun x => bm_full (eb_test (ev_op (ev_cb (ea_cons (ev_var (by rfl)) ea_nil) cb_lenL) ev_int od_gt))) (fun h => xb_draw fun O => eu_op (eu_call (ea_cons ev_int ea_nil) rfl ⟨3, rfl, by decide, by decide⟩) (eu_pure ev_int) fun a b ha hb => ?_) (fun _ z => nomatch z) (fun b h _ _ z => ?_)
    · obtain ⟨r, rfl, r0, r1⟩ := take_int ha
      subst hb
      exact ⟨_, ⟨_, rfl, True.intro⟩, od_eqI⟩
    · have q := of_decide_eq_true h.symm
      rw [z] at q
      exact absurd q (by decide)
  case el => exact xn_imp (xn_pure (M' := [(4, .d ms), (3, .l (cs.map chg))]) fun x => mn_nil) (fun M2 d2 h => ⟨cs, none, h.1, h.2, good cs (by omega) ci.cs1⟩) (by decide)
  case th =>
    have ne := hP rfl
    have lc := List.length_pos_iff.mpr ne
    refine xn_imp (k := 1 + 2) (xn_seq (k := 1) (l := 2) (xn_callI (i := 9) (nn := ((cs.map chg).length : Nat)) (fun x => em_full (ev_cb (ea_cons (ev_var (by rfl)) ea_nil) cb_lenL) (fz_scal rfl)) rfl ⟨_, rfl, by rw [List.length_map]; omega, by rw [List.length_map]; omega⟩ (by intro x h; simp [List.eraseIdx] at h; first | (subst h; simp; done) | (cases h with | inl h => (subst h; simp) | inr h => (subst h; simp)) | (cases h with | inl h => (subst h; simp) | inr h => (cases h with | inl h => (subst h; simp) | inr h => (subst h; simp))) | (cases h with | inl h => (subst h; simp) | inr h => (cases h with | inl h => (subst h; simp) | inr h => (cases h with | inl h => (subst h; simp) | inr h => (subst h; simp))))) (by decide)) (S2 := fun M' ds' => ∃ cs' z, M' = [(4, .d ms), (3, .l (cs'.map chg))] ∧ ds' = (cds m pl).set 9 z ∧ Good m cs') fun M' ds' h => ?_) (fun _ _ h => h) (by decide)
    obtain ⟨rfl, d, hd, rfl⟩ := h
    obtain ⟨r, rfl, r0, r1⟩ := take_int hd
    rw [List.length_map] at r1
    refine xn_imp (xn_item (j := 1) (i := 3) (es := cs.map chg) (k := 2) (nn := r) (m := r.toNat) (R := fun d => ∃ a b : Int, d = chg (a, b) ∧ 0 ≤ a ∧ a < m ∧ 0 ≤ b ∧ b ≤ 3) rfl (fun O => ?pr) (fun x => em_pure fun O => (ev_var (by rfl))) (ixN_in r0 (by rw [List.length_map]; exact r1))) (fun M2 d2 h => ?_) (by decide)
    case pr =>
      refine eu_imp (eu_tup (eau_cons (eu_call (ea_cons (ev_var (by rfl)) ea_nil) rfl ⟨m, rfl, by omega, by omega⟩) (eau_cons (eu_call (ea_cons ev_int ea_nil) rfl ⟨4, rfl, by decide, by decide⟩) eau_nil)) ?_) ?_
      · rintro es ⟨d, r, rfl, _, d2, r2, rfl, _, rfl⟩
        show 2 ≤ sizeLine
        decide
      · rintro x ⟨es, rfl, d, r, rfl, h1, d2, r2, rfl, h2, rfl⟩
        obtain ⟨a, rfl, q1, q2⟩ := take_int h1
        obtain ⟨b, rfl, q3, q4⟩ := take_int h2
        exact ⟨a, b, rfl, q1, q2, q3, by omega⟩
    obtain ⟨rfl, e, ⟨a, b, rfl, q1, q2, q3, q4⟩, rfl⟩ := h
    refine ⟨cs.set r.toNat (a, b), some (.int r), ?_, rfl, good _ (by rw [List.length_set]; omega) fun c hc => ?_⟩
    · rw [List.map_set]
      rfl
    · rcases List.mem_or_eq_of_mem_set hc with hc | rfl
      · exact ci.cs1 c hc
      · exact ⟨q1, q2, q3, by show b ≤ 100; omega⟩
  obtain ⟨cs', z, rfl, rfl, g⟩ := h
  refine xr_ret (d := his m cs') (fun x => ev_tup (ea_cons (ev_var (by rfl)) (ea_cons (ev_cb (ea_cons (ev_var (by rfl)) ea_nil) cb_tupL) ea_nil)) (by show 2 ≤ sizeLine; decide)) ⟨3, fun e he => ?_⟩ ⟨m, cs', rfl, g⟩
  simp only [List.mem_cons, List.not_mem_nil, or_false] at he
  rcases he with rfl | rfl
  · rfl
  · intro e he
    obtain ⟨c, _, rfl⟩ := List.mem_map.mp he
    intro e he
    simp only [List.mem_cons, List.not_mem_nil, or_false] at he
    rcases he with rfl | rfl <;> rfl
end
end K2

namespace K2
open PySem PySem.Spec PyProof.Rows L2 Ph
theorem self_exm {K : PySem.W.Frag} {S : Addr} (h1 : PySem.W.subIn K (.ref S) (.type "BaseException") = some true) (h2 : PySem.W.isClsIn K S = true) (h3 : PySem.W.typeIn K (.ref S) = some (.type "type")) (h4 : PySem.W.subIn K (.ref S) (.ref S) = some true) : PySem.W.exmOne K (.ref S) (.ref S) = some true := by
  have e1 : (PySem.W.subIn K (.ref S) (.type "BaseException") == some true) = true := by rw [h1]; rfl
  have e2 : ((PySem.W.clsIn K S).isSome && PySem.W.typeIn K (.ref S) == some (.type "type")) = true := by
    have z : (PySem.W.clsIn K S).isSome = true := h2
    rw [z, h3]
    rfl
  unfold PySem.W.exmOne
  show (if (PySem.W.subIn K (.ref S) (.type "BaseException") == some true) = true then (if ((PySem.W.clsIn K S).isSome && PySem.W.typeIn K (.ref S) == some (.type "type")) = true then PySem.W.subIn K (.ref S) (.ref S) else none) else none) = some true
  rw [if_pos e1, if_pos e2, h4]
theorem cal_mk {P : Program} {w : World} {K : PySem.W.Frag} {mg : Str → Option Value} {base : Heap} {x : Str} {k : Nat} {ps : List Str} {sp : Sp} {f : Addr} {fd : FuncData} (g : mg x = some (.ref f)) (kp : PySem.W.keepIn K (.ref f) = true) (b : Binds K fd ps []) (F : FnOk P w K mg base CX0 k f fd ps sp) : Cal P w K mg base x k ps sp := ⟨f, fd, g, kp, b, F⟩
theorem all_mk {l : PySem.W.OpenLaw} {w : World} {K : PySem.W.Frag} {h : Heap} {mg : Str → Option Value} {fa C fI : Addr} (X : K.In h) (G : h.Ns mainGlobals mg) (hfa : mg "law" = some (.ref fa))
    {nm qn : Str} {N : Addr} {bs : List Value} {sn : List Str} {sub : List Value} {ab : Bool} {col : Option Bool} {dd : Option Addr} {v0 v1 v2 v3 v5 : Option Value}
    {odI anI : Option Addr} {slI : Array (Option Value)} {ocI kVI dcI pmI cdI ctI : Value}
    {f0 f1 f2 f3 f4 f5 f6 f7 f8 f9 f10 f11 f12 f13 f14 f15 f16 f17 f18 f19 f20 f21 f22 f23 f24 f25 : Addr} {od0 an0 od1 an1 od2 an2 od3 an3 od4 an4 od5 an5 od6 an6 od7 an7 od8 an8 od9 an9 od10 an10 od11 an11 od12 an12 od13 an13 od14 an14 od15 an15 od16 an16 od17 an17 od18 an18 od19 an19 od20 an20 od21 an21 od22 an22 od23 an23 od24 an24 od25 an25 : Option Addr} {sl0 sl1 sl2 sl3 sl4 sl5 sl6 sl7 sl8 sl9 sl10 sl11 sl12 sl13 sl14 sl15 sl16 sl17 sl18 sl19 sl20 sl21 sl22 sl23 sl24 sl25 : Array (Option Value)} {oc0 kV0 dc0 pm0 cd0 ct0 oc1 kV1 dc1 pm1 cd1 ct1 oc2 kV2 dc2 pm2 cd2 ct2 oc3 kV3 dc3 pm3 cd3 ct3 oc4 kV4 dc4 pm4 cd4 ct4 oc5 kV5 dc5 pm5 cd5 ct5 oc6 kV6 dc6 pm6 cd6 ct6 oc7 kV7 dc7 pm7 cd7 ct7 oc8 kV8 dc8 pm8 cd8 ct8 oc9 kV9 dc9 pm9 cd9 ct9 oc10 kV10 dc10 pm10 cd10 ct10 oc11 kV11 dc11 pm11 cd11 ct11 oc12 kV12 dc12 pm12 cd12 ct12 oc13 kV13 dc13 pm13 cd13 ct13 oc14 kV14 dc14 pm14 cd14 ct14 oc15 kV15 dc15 pm15 cd15 ct15 oc16 kV16 dc16 pm16 cd16 ct16 oc17 kV17 dc17 pm17 cd17 ct17 oc18 kV18 dc18 pm18 cd18 ct18 oc19 kV19 dc19 pm19 cd19 ct19 oc20 kV20 dc20 pm20 cd20 ct20 oc21 kV21 dc21 pm21 cd21 ct21 oc22 kV22 dc22 pm22 cd22 ct22 oc23 kV23 dc23 pm23 cd23 ct23 oc24 kV24 dc24 pm24 cd24 ct24 oc25 kV25 dc25 pm25 cd25 ct25 : Value}
    (aC : PySem.W.nsIn K mainGlobals "NoPlace" = some (some (.ref C)))
    (xC : K.lookup C = some (excClassObj nm qn C N bs leM true sn sub ab col dd v0 v1 v2 v3 v5 "LookupError.__new__"))
    (sa : PySem.W.findIn K (.ref C) "__setattr__" = some (some (.builtin "object.__setattr__")))
    (ga : PySem.W.findIn K (.ref C) "__getattribute__" = some (some (.builtin "BaseException.__getattribute__")))
    (gg : PySem.W.findIn K (.ref C) "__getattr__" = some none)
    (nb : PySem.W.findIn K (.ref C) "place" = some none)
    (iC : PySem.W.findIn K (.ref C) "__init__" = some (some (.ref fI)))
    (tI : PySem.W.typeIn K (.ref fI) = some (.type "function"))
    (lI : K.lookup fI = some ⟨ocI, odI, .func (PySem.W.fnOf "__init__" "NoPlace.__init__" (defArgs s_init) (defBody s_init) (defScope s_init) .none kVI dcI pmI anI cdI ctI), slI⟩)
    (cI : PySem.W.codeIn K cdI "NoPlace.__init__" = true)
    (kI : PySem.W.keepIn K (.ref fI) = true)
    (kC : PySem.W.keepIn K (.ref C) = true)
    (eC : PySem.W.subIn K (.ref C) (.type "BaseException") = some true)
    (tC : PySem.W.typeIn K (.ref C) = some (.type "type"))
    (hC : PySem.W.hasDictIn K C = true)
    (isC : PySem.W.isClsIn K C = true)
    (sC : PySem.W.subIn K (.ref C) (.ref C) = some true)
    (zL : PySem.W.nsIn K mainGlobals "LookupError" = some none)
    (vL : PySem.W.findCls K (.type "LookupError") (.type "type") "__init__" = some (.val (.builtin "LookupError.__init__")))
    (a0 : PySem.W.nsIn K mainGlobals "is_number" = some (some (.ref f0)))
    (l0 : K.lookup f0 = some ⟨oc0, od0, .func (PySem.W.fnOf "is_number" "is_number" (defArgs s_is_number) (defBody s_is_number) (defScope s_is_number) .none kV0 dc0 pm0 an0 cd0 ct0), sl0⟩)
    (c0 : PySem.W.codeIn K cd0 "is_number" = true)
    (k0 : PySem.W.keepIn K (.ref f0) = true)
    (a1 : PySem.W.nsIn K mainGlobals "is_tuple_of" = some (some (.ref f1)))
    (l1 : K.lookup f1 = some ⟨oc1, od1, .func (PySem.W.fnOf "is_tuple_of" "is_tuple_of" (defArgs s_is_tuple_of) (defBody s_is_tuple_of) (defScope s_is_tuple_of) .none kV1 dc1 pm1 an1 cd1 ct1), sl1⟩)
    (c1 : PySem.W.codeIn K cd1 "is_tuple_of" = true)
    (k1 : PySem.W.keepIn K (.ref f1) = true)
    (a2 : PySem.W.nsIn K mainGlobals "has_numbers" = some (some (.ref f2)))
    (l2 : K.lookup f2 = some ⟨oc2, od2, .func (PySem.W.fnOf "has_numbers" "has_numbers" (defArgs s_has_numbers) (defBody s_has_numbers) (defScope s_has_numbers) .none kV2 dc2 pm2 an2 cd2 ct2), sl2⟩)
    (c2 : PySem.W.codeIn K cd2 "has_numbers" = true)
    (k2 : PySem.W.keepIn K (.ref f2) = true)
    (a3 : PySem.W.nsIn K mainGlobals "has_numbers_from" = some (some (.ref f3)))
    (l3 : K.lookup f3 = some ⟨oc3, od3, .func (PySem.W.fnOf "has_numbers_from" "has_numbers_from" (defArgs s_has_numbers_from) (defBody s_has_numbers_from) (defScope s_has_numbers_from) .none kV3 dc3 pm3 an3 cd3 ct3), sl3⟩)
    (c3 : PySem.W.codeIn K cd3 "has_numbers_from" = true)
    (k3 : PySem.W.keepIn K (.ref f3) = true)
    (a4 : PySem.W.nsIn K mainGlobals "is_history" = some (some (.ref f4)))
    (l4 : K.lookup f4 = some ⟨oc4, od4, .func (PySem.W.fnOf "is_history" "is_history" (defArgs s_is_history) (defBody s_is_history) (defScope s_is_history) .none kV4 dc4 pm4 an4 cd4 ct4), sl4⟩)
    (c4 : PySem.W.codeIn K cd4 "is_history" = true)
    (k4 : PySem.W.keepIn K (.ref f4) = true)
    (a5 : PySem.W.nsIn K mainGlobals "_is_change" = some (some (.ref f5)))
    (l5 : K.lookup f5 = some ⟨oc5, od5, .func (PySem.W.fnOf "_is_change" "_is_change" (defArgs s__is_change) (defBody s__is_change) (defScope s__is_change) .none kV5 dc5 pm5 an5 cd5 ct5), sl5⟩)
    (c5 : PySem.W.codeIn K cd5 "_is_change" = true)
    (k5 : PySem.W.keepIn K (.ref f5) = true)
    (a6 : PySem.W.nsIn K mainGlobals "reads" = some (some (.ref f6)))
    (l6 : K.lookup f6 = some ⟨oc6, od6, .func (PySem.W.fnOf "reads" "reads" (defArgs s_reads) (defBody s_reads) (defScope s_reads) .none kV6 dc6 pm6 an6 cd6 ct6), sl6⟩)
    (c6 : PySem.W.codeIn K cd6 "reads" = true)
    (k6 : PySem.W.keepIn K (.ref f6) = true)
    (a7 : PySem.W.nsIn K mainGlobals "changed" = some (some (.ref f7)))
    (l7 : K.lookup f7 = some ⟨oc7, od7, .func (PySem.W.fnOf "changed" "changed" (defArgs s_changed) (defBody s_changed) (defScope s_changed) .none kV7 dc7 pm7 an7 cd7 ct7), sl7⟩)
    (c7 : PySem.W.codeIn K cd7 "changed" = true)
    (k7 : PySem.W.keepIn K (.ref f7) = true)
    (a8 : PySem.W.nsIn K mainGlobals "text_behind" = some (some (.ref f8)))
    (l8 : K.lookup f8 = some ⟨oc8, od8, .func (PySem.W.fnOf "text_behind" "text_behind" (defArgs s_text_behind) (defBody s_text_behind) (defScope s_text_behind) .none kV8 dc8 pm8 an8 cd8 ct8), sl8⟩)
    (c8 : PySem.W.codeIn K cd8 "text_behind" = true)
    (k8 : PySem.W.keepIn K (.ref f8) = true)
    (a9 : PySem.W.nsIn K mainGlobals "texts_along" = some (some (.ref f9)))
    (l9 : K.lookup f9 = some ⟨oc9, od9, .func (PySem.W.fnOf "texts_along" "texts_along" (defArgs s_texts_along) (defBody s_texts_along) (defScope s_texts_along) .none kV9 dc9 pm9 an9 cd9 ct9), sl9⟩)
    (c9 : PySem.W.codeIn K cd9 "texts_along" = true)
    (k9 : PySem.W.keepIn K (.ref f9) = true)
    (a10 : PySem.W.nsIn K mainGlobals "plain" = some (some (.ref f10)))
    (l10 : K.lookup f10 = some ⟨oc10, od10, .func (PySem.W.fnOf "plain" "plain" (defArgs s_plain) (defBody s_plain) (defScope s_plain) .none kV10 dc10 pm10 an10 cd10 ct10), sl10⟩)
    (c10 : PySem.W.codeIn K cd10 "plain" = true)
    (k10 : PySem.W.keepIn K (.ref f10) = true)
    (a11 : PySem.W.nsIn K mainGlobals "beside" = some (some (.ref f11)))
    (l11 : K.lookup f11 = some ⟨oc11, od11, .func (PySem.W.fnOf "beside" "beside" (defArgs s_beside) (defBody s_beside) (defScope s_beside) .none kV11 dc11 pm11 an11 cd11 ct11), sl11⟩)
    (c11 : PySem.W.codeIn K cd11 "beside" = true)
    (k11 : PySem.W.keepIn K (.ref f11) = true)
    (a12 : PySem.W.nsIn K mainGlobals "puts_only" = some (some (.ref f12)))
    (l12 : K.lookup f12 = some ⟨oc12, od12, .func (PySem.W.fnOf "puts_only" "puts_only" (defArgs s_puts_only) (defBody s_puts_only) (defScope s_puts_only) .none kV12 dc12 pm12 an12 cd12 ct12), sl12⟩)
    (c12 : PySem.W.codeIn K cd12 "puts_only" = true)
    (k12 : PySem.W.keepIn K (.ref f12) = true)
    (a13 : PySem.W.nsIn K mainGlobals "takes_back" = some (some (.ref f13)))
    (l13 : K.lookup f13 = some ⟨oc13, od13, .func (PySem.W.fnOf "takes_back" "takes_back" (defArgs s_takes_back) (defBody s_takes_back) (defScope s_takes_back) .none kV13 dc13 pm13 an13 cd13 ct13), sl13⟩)
    (c13 : PySem.W.codeIn K cd13 "takes_back" = true)
    (k13 : PySem.W.keepIn K (.ref f13) = true)
    (a14 : PySem.W.nsIn K mainGlobals "_law_box" = some (some (.ref f14)))
    (l14 : K.lookup f14 = some ⟨oc14, od14, .func (PySem.W.fnOf "_law_box" "_law_box" (defArgs s__law_box) (defBody s__law_box) (defScope s__law_box) .none kV14 dc14 pm14 an14 cd14 ct14), sl14⟩)
    (c14 : PySem.W.codeIn K cd14 "_law_box" = true)
    (k14 : PySem.W.keepIn K (.ref f14) = true)
    (a15 : PySem.W.nsIn K mainGlobals "_law_take" = some (some (.ref f15)))
    (l15 : K.lookup f15 = some ⟨oc15, od15, .func (PySem.W.fnOf "_law_take" "_law_take" (defArgs s__law_take) (defBody s__law_take) (defScope s__law_take) .none kV15 dc15 pm15 an15 cd15 ct15), sl15⟩)
    (c15 : PySem.W.codeIn K cd15 "_law_take" = true)
    (k15 : PySem.W.keepIn K (.ref f15) = true)
    (a16 : PySem.W.nsIn K mainGlobals "_law_cells" = some (some (.ref f16)))
    (l16 : K.lookup f16 = some ⟨oc16, od16, .func (PySem.W.fnOf "_law_cells" "_law_cells" (defArgs s__law_cells) (defBody s__law_cells) (defScope s__law_cells) .none kV16 dc16 pm16 an16 cd16 ct16), sl16⟩)
    (c16 : PySem.W.codeIn K cd16 "_law_cells" = true)
    (k16 : PySem.W.keepIn K (.ref f16) = true)
    (a17 : PySem.W.nsIn K mainGlobals "_law_of" = some (some (.ref f17)))
    (l17 : K.lookup f17 = some ⟨oc17, od17, .func (PySem.W.fnOf "_law_of" "_law_of" (defArgs s__law_of) (defBody s__law_of) (defScope s__law_of) .none kV17 dc17 pm17 an17 cd17 ct17), sl17⟩)
    (c17 : PySem.W.codeIn K cd17 "_law_of" = true)
    (k17 : PySem.W.keepIn K (.ref f17) = true)
    (a18 : PySem.W.nsIn K mainGlobals "_law_same" = some (some (.ref f18)))
    (l18 : K.lookup f18 = some ⟨oc18, od18, .func (PySem.W.fnOf "_law_same" "_law_same" (defArgs s__law_same) (defBody s__law_same) (defScope s__law_same) .none kV18 dc18 pm18 an18 cd18 ct18), sl18⟩)
    (c18 : PySem.W.codeIn K cd18 "_law_same" = true)
    (k18 : PySem.W.keepIn K (.ref f18) = true)
    (a19 : PySem.W.nsIn K mainGlobals "_law_past" = some (some (.ref f19)))
    (l19 : K.lookup f19 = some ⟨oc19, od19, .func (PySem.W.fnOf "_law_past" "_law_past" (defArgs s__law_past) (defBody s__law_past) (defScope s__law_past) .none kV19 dc19 pm19 an19 cd19 ct19), sl19⟩)
    (c19 : PySem.W.codeIn K cd19 "_law_past" = true)
    (k19 : PySem.W.keepIn K (.ref f19) = true)
    (a20 : PySem.W.nsIn K mainGlobals "_law_heard" = some (some (.ref f20)))
    (l20 : K.lookup f20 = some ⟨oc20, od20, .func (PySem.W.fnOf "_law_heard" "_law_heard" (defArgs s__law_heard) (defBody s__law_heard) (defScope s__law_heard) .none kV20 dc20 pm20 an20 cd20 ct20), sl20⟩)
    (c20 : PySem.W.codeIn K cd20 "_law_heard" = true)
    (k20 : PySem.W.keepIn K (.ref f20) = true)
    (a21 : PySem.W.nsIn K mainGlobals "_law_calm" = some (some (.ref f21)))
    (l21 : K.lookup f21 = some ⟨oc21, od21, .func (PySem.W.fnOf "_law_calm" "_law_calm" (defArgs s__law_calm) (defBody s__law_calm) (defScope s__law_calm) .none kV21 dc21 pm21 an21 cd21 ct21), sl21⟩)
    (c21 : PySem.W.codeIn K cd21 "_law_calm" = true)
    (k21 : PySem.W.keepIn K (.ref f21) = true)
    (a22 : PySem.W.nsIn K mainGlobals "_law_kinds" = some (some (.ref f22)))
    (l22 : K.lookup f22 = some ⟨oc22, od22, .func (PySem.W.fnOf "_law_kinds" "_law_kinds" (defArgs s__law_kinds) (defBody s__law_kinds) (defScope s__law_kinds) .none kV22 dc22 pm22 an22 cd22 ct22), sl22⟩)
    (c22 : PySem.W.codeIn K cd22 "_law_kinds" = true)
    (k22 : PySem.W.keepIn K (.ref f22) = true)
    (a23 : PySem.W.nsIn K mainGlobals "_law_right" = some (some (.ref f23)))
    (l23 : K.lookup f23 = some ⟨oc23, od23, .func (PySem.W.fnOf "_law_right" "_law_right" (defArgs s__law_right) (defBody s__law_right) (defScope s__law_right) .none kV23 dc23 pm23 an23 cd23 ct23), sl23⟩)
    (c23 : PySem.W.codeIn K cd23 "_law_right" = true)
    (k23 : PySem.W.keepIn K (.ref f23) = true)
    (a24 : PySem.W.nsIn K mainGlobals "_law_by_hand_right" = some (some (.ref f24)))
    (l24 : K.lookup f24 = some ⟨oc24, od24, .func (PySem.W.fnOf "_law_by_hand_right" "_law_by_hand_right" (defArgs s__law_by_hand_right) (defBody s__law_by_hand_right) (defScope s__law_by_hand_right) .none kV24 dc24 pm24 an24 cd24 ct24), sl24⟩)
    (c24 : PySem.W.codeIn K cd24 "_law_by_hand_right" = true)
    (k24 : PySem.W.keepIn K (.ref f24) = true)
    (a25 : PySem.W.nsIn K mainGlobals "law" = some (some (.ref f25)))
    (l25 : K.lookup f25 = some ⟨oc25, od25, .func (PySem.W.fnOf "law" "law" (defArgs s_law) (defBody s_law) (defScope s_law) .none kV25 dc25 pm25 an25 cd25 ct25), sl25⟩)
    (c25 : PySem.W.codeIn K cd25 "law" = true)
    (k25 : PySem.W.keepIn K (.ref f25) = true)
    (z_isinstance : PySem.W.nsIn K mainGlobals "isinstance" = some none)
    (z_len : PySem.W.nsIn K mainGlobals "len" = some none)
    (z_tuple : PySem.W.nsIn K mainGlobals "tuple" = some none)
    (z_list : PySem.W.nsIn K mainGlobals "list" = some none)
    (z_int : PySem.W.nsIn K mainGlobals "int" = some none)
    (z_bool : PySem.W.nsIn K mainGlobals "bool" = some none)
    (z_str : PySem.W.nsIn K mainGlobals "str" = some none)
    (z_all : PySem.W.nsIn K mainGlobals "all" = some none)
    (z_range : PySem.W.nsIn K mainGlobals "range" = some none)
    (z_enumerate : PySem.W.nsIn K mainGlobals "enumerate" = some none)
    (z_zip : PySem.W.nsIn K mainGlobals "zip" = some none)
    (z_max : PySem.W.nsIn K mainGlobals "max" = some none)
    (z_abs : PySem.W.nsIn K mainGlobals "abs" = some none) :
    ∃ fd : FuncData, (∀ (s : Shared) (v : Value), BindsTo s fd ⟨[v], []⟩ [("script", v)]) ∧ ∀ base : Heap, K.In base → base.Ns mainGlobals mg → FnOk l.prog w K mg base CX0 21 fa fd ["script"] (spLaw K) := by
  have e := hfa.symm.trans (PySem.W.mg_of X G a25)
  cases e
  have T : Blt mg := ⟨PySem.W.mg_none_of X G z_isinstance, PySem.W.mg_none_of X G z_len, PySem.W.mg_none_of X G z_tuple, PySem.W.mg_none_of X G z_list, PySem.W.mg_none_of X G z_int, PySem.W.mg_none_of X G z_bool, PySem.W.mg_none_of X G z_str, PySem.W.mg_none_of X G z_all, PySem.W.mg_none_of X G z_range, PySem.W.mg_none_of X G z_enumerate, PySem.W.mg_none_of X G z_zip, PySem.W.mg_none_of X G z_max, PySem.W.mg_none_of X G z_abs⟩
  have F0 := fun_mk (st := s_is_number) l0 c0 k0
  have b0 := F0.binds (ps := ["thing"]) fun _ _ _ _ _ _ us hl => match us, hl with | [_], _ => rfl
  have g0 := PySem.W.mg_of X G a0
  have F1 := fun_mk (st := s_is_tuple_of) l1 c1 k1
  have b1 := F1.binds (ps := ["thing", "many"]) fun _ _ _ _ _ _ us hl => match us, hl with | [_, _], _ => rfl
  have g1 := PySem.W.mg_of X G a1
  have F2 := fun_mk (st := s_has_numbers) l2 c2 k2
  have b2 := F2.binds (ps := ["thing"]) fun _ _ _ _ _ _ us hl => match us, hl with | [_], _ => rfl
  have g2 := PySem.W.mg_of X G a2
  have F3 := fun_mk (st := s_has_numbers_from) l3 c3 k3
  have b3 := F3.binds (ps := ["thing", "low"]) fun _ _ _ _ _ _ us hl => match us, hl with | [_, _], _ => rfl
  have g3 := PySem.W.mg_of X G a3
  have F4 := fun_mk (st := s_is_history) l4 c4 k4
  have b4 := F4.binds (ps := ["thing"]) fun _ _ _ _ _ _ us hl => match us, hl with | [_], _ => rfl
  have g4 := PySem.W.mg_of X G a4
  have F5 := fun_mk (st := s__is_change) l5 c5 k5
  have b5 := F5.binds (ps := ["thing", "many"]) fun _ _ _ _ _ _ us hl => match us, hl with | [_, _], _ => rfl
  have g5 := PySem.W.mg_of X G a5
  have F6 := fun_mk (st := s_reads) l6 c6 k6
  have b6 := F6.binds (ps := ["text"]) fun _ _ _ _ _ _ us hl => match us, hl with | [_], _ => rfl
  have g6 := PySem.W.mg_of X G a6
  have F7 := fun_mk (st := s_changed) l7 c7 k7
  have b7 := F7.binds (ps := ["text", "change"]) fun _ _ _ _ _ _ us hl => match us, hl with | [_, _], _ => rfl
  have g7 := PySem.W.mg_of X G a7
  have F8 := fun_mk (st := s_text_behind) l8 c8 k8
  have b8 := F8.binds (ps := ["history"]) fun _ _ _ _ _ _ us hl => match us, hl with | [_], _ => rfl
  have g8 := PySem.W.mg_of X G a8
  have F9 := fun_mk (st := s_texts_along) l9 c9 k9
  have b9 := F9.binds (ps := ["history"]) fun _ _ _ _ _ _ us hl => match us, hl with | [_], _ => rfl
  have g9 := PySem.W.mg_of X G a9
  have F10 := fun_mk (st := s_plain) l10 c10 k10
  have b10 := F10.binds (ps := ["word"]) fun _ _ _ _ _ _ us hl => match us, hl with | [_], _ => rfl
  have g10 := PySem.W.mg_of X G a10
  have F11 := fun_mk (st := s_beside) l11 c11 k11
  have b11 := F11.binds (ps := ["one", "other"]) fun _ _ _ _ _ _ us hl => match us, hl with | [_, _], _ => rfl
  have g11 := PySem.W.mg_of X G a11
  have F12 := fun_mk (st := s_puts_only) l12 c12 k12
  have b12 := F12.binds (ps := ["history"]) fun _ _ _ _ _ _ us hl => match us, hl with | [_], _ => rfl
  have g12 := PySem.W.mg_of X G a12
  have F13 := fun_mk (st := s_takes_back) l13 c13 k13
  have b13 := F13.binds (ps := ["history"]) fun _ _ _ _ _ _ us hl => match us, hl with | [_], _ => rfl
  have g13 := PySem.W.mg_of X G a13
  have F14 := fun_mk (st := s__law_box) l14 c14 k14
  have b14 := F14.binds (ps := ["script", "k"]) fun _ _ _ _ _ _ us hl => match us, hl with | [_, _], _ => rfl
  have g14 := PySem.W.mg_of X G a14
  have F15 := fun_mk (st := s__law_take) l15 c15 k15
  have b15 := F15.binds (ps := ["urn", "low_so"]) fun _ _ _ _ _ _ us hl => match us, hl with | [_, _], _ => rfl
  have g15 := PySem.W.mg_of X G a15
  have F16 := fun_mk (st := s__law_cells) l16 c16 k16
  have b16 := F16.binds (ps := ["script", "top"]) fun _ _ _ _ _ _ us hl => match us, hl with | [_, _], _ => rfl
  have g16 := PySem.W.mg_of X G a16
  have F17 := fun_mk (st := s__law_of) l17 c17 k17
  have b17 := F17.binds (ps := ["urn", "some_so"]) fun _ _ _ _ _ _ us hl => match us, hl with | [_, _], _ => rfl
  have g17 := PySem.W.mg_of X G a17
  have F18 := fun_mk (st := s__law_same) l18 c18 k18
  have b18 := F18.binds (ps := ["got", "goal"]) fun _ _ _ _ _ _ us hl => match us, hl with | [_, _], _ => rfl
  have g18 := PySem.W.mg_of X G a18
  have F19 := fun_mk (st := s__law_past) l19 c19 k19
  have b19 := F19.binds (ps := ["urn", "most", "letters_so"]) fun _ _ _ _ _ _ us hl => match us, hl with | [_, _, _], _ => rfl
  have g19 := PySem.W.mg_of X G a19
  have F20 := fun_mk (st := s__law_heard) l20 c20 k20
  have b20 := F20.binds (ps := ["text", "change"]) fun _ _ _ _ _ _ us hl => match us, hl with | [_, _], _ => rfl
  have g20 := PySem.W.mg_of X G a20
  have F21 := fun_mk (st := s__law_calm) l21 c21 k21
  have b21 := F21.binds (ps := ["urn"]) fun _ _ _ _ _ _ us hl => match us, hl with | [_], _ => rfl
  have g21 := PySem.W.mg_of X G a21
  have F22 := fun_mk (st := s__law_kinds) l22 c22 k22
  have b22 := F22.binds (ps := ["past"]) fun _ _ _ _ _ _ us hl => match us, hl with | [_], _ => rfl
  have g22 := PySem.W.mg_of X G a22
  have F23 := fun_mk (st := s__law_right) l23 c23 k23
  have b23 := F23.binds (ps := ["urn"]) fun _ _ _ _ _ _ us hl => match us, hl with | [_], _ => rfl
  have g23 := PySem.W.mg_of X G a23
  have F24 := fun_mk (st := s__law_by_hand_right) l24 c24 k24
  have b24 := F24.binds (ps := []) fun _ _ _ _ _ _ us hl => match us, hl with | [], _ => rfl
  have g24 := PySem.W.mg_of X G a24
  have F25 := fun_mk (st := s_law) l25 c25 k25
  have b25 := F25.binds (ps := ["script"]) fun _ _ _ _ _ _ us hl => match us, hl with | [_], _ => rfl
  have g25 := PySem.W.mg_of X G a25
  have FI := fun_mk (st := s_init) lI cI kI
  have bI := FI.binds (ps := ["self", "place"]) fun _ _ _ _ _ _ us hl => match us, hl with | [_, _], _ => rfl
  have NN : NP K mg C fI _ := ⟨⟨⟨nm, qn, N, bs, sn, sub, ab, col, dd, v0, v1, v2, v3, v5, xC⟩, sa, eC, tC, kC⟩, iC, tI, FI, bI, PySem.W.mg_of X G aC, nb, ⟨ga, gg, eC, hC⟩, self_exm eC isC tC sC, PySem.W.mg_none_of X G zL, vL⟩
  refine ⟨PySem.W.fnOf "law" "law" (defArgs s_law) (defBody s_law) (defScope s_law) .none kV25 dc25 pm25 an25 cd25 ct25, fun s v => .of_eq rfl, fun base _ _ => ?_⟩
  · have C_is_number := (cal_mk g0 k0 b0 (ok_is_number (P := l.prog) (w := w) (base := base) F0 T))
    have C_is_tuple_of := (cal_mk g1 k1 b1 (ok_is_tuple_of (P := l.prog) (w := w) (base := base) F1 T))
    have C_has_numbers := (cal_mk g2 k2 b2 (ok_has_numbers F2 T C_is_number))
    have C_has_numbers_from := (cal_mk g3 k3 b3 (ok_has_numbers_from F3 T C_has_numbers))
    have C__is_change := (cal_mk g5 k5 b5 (ok__is_change F5 T C_is_tuple_of C_has_numbers_from))
    have C_is_history := (cal_mk g4 k4 b4 (ok_is_history F4 T C_is_tuple_of C_is_number C__is_change))
    have C_reads := (cal_mk g6 k6 b6 (ok_reads (P := l.prog) (w := w) (base := base) F6 T))
    have C_text_behind := (cal_mk g8 k8 b8 (ok_text_behind (P := l.prog) (w := w) (base := base) F8 T))
    have C_plain := (cal_mk g10 k10 b10 (ok_plain (P := l.prog) (w := w) (base := base) F10 T))
    have C_beside := (cal_mk g11 k11 b11 (ok_beside (P := l.prog) (w := w) (base := base) F11 T))
    have C_puts_only := (cal_mk g12 k12 b12 (ok_puts_only (P := l.prog) (w := w) (base := base) F12 T))
    have C_takes_back := (cal_mk g13 k13 b13 (ok_takes_back (P := l.prog) (w := w) (base := base) F13 T))
    have C__law_kinds := (cal_mk g22 k22 b22 (ok__law_kinds (P := l.prog) (w := w) (base := base) F22 T))
    have C_changed := (cal_mk g7 k7 b7 (ok_changed0 (P := l.prog) (w := w) (base := base) F7 T NN))
    have C_texts_along := (cal_mk g9 k9 b9 (ok_texts_along F9 T C_changed))
    have C__law_heard := (cal_mk g20 k20 b20 (ok__law_heard (P := l.prog) (w := w) (base := base) F20 T NN g7 k7 b7 (ok_changed F7 T NN)))
    have C__law_take := (cal_mk g15 k15 b15 (take_U (ok__law_take (P := l.prog) (w := w) (base := base) F15 T)))
    have C__law_of := (cal_mk g17 k17 b17 (ok__law_of F17 T C__law_take))
    have C__law_past := (cal_mk g19 k19 b19 (ok__law_past F19 T C__law_take))
    have C__law_calm := (cal_mk g21 k21 b21 (ok__law_calm F21 T C__law_take C__law_of))
    have C__law_same := (cal_mk g18 k18 b18 (ok__law_same (P := l.prog) (w := w) (base := base) F18 T g18 k18 b18 6))
    have C__law_cells := (cal_mk g16 k16 b16 (ok__law_cells (P := l.prog) (w := w) (base := base) F16 T))
    have C__law_box := (cal_mk g14 k14 b14 (ok__law_box (P := l.prog) (w := w) (base := base) F14 T))
    have C__law_by_hand_right := (cal_mk g24 k24 b24 (ok__law_by_hand_right F24 T C_reads C_text_behind C_beside C_plain C__law_heard C_puts_only C_takes_back C__law_same))
    have C__law_right := (cal_mk g23 k23 b23 (ok__law_right F23 T C__law_past C__law_calm C_reads C_text_behind C_beside C_plain C__law_heard C_puts_only C_takes_back C_is_history C_texts_along C__law_kinds C__law_same))
    exact ok_law (kk := 500) (by decide) F25 T C__law_by_hand_right C__law_cells C__law_box C__law_right
end K2
open PySem PySem.W PyProof.Rows
set_option maxRecDepth 100000 in
set_option maxHeartbeats 0 in
theorem PySem.Challenge.cw_placehues_k02_whole_texts_change_by_chan_holds : PySem.Challenge.rw_placehues_k02_whole_texts_change_by_chan.Holds := by
  w_on; o_law; k_head; (case hw => w_witness2)
  k_fill
  refine L2.walk_of (l := PySem.Challenge.rw_placehues_k02_whole_texts_change_by_chan) (n := 63) (k := 21) (x := "script") (CX := fun _ => L2.CX0) (sp := fun w => K2.spLaw _) rfl (by decide) rfl ⟨rfl, by decide, by decide⟩ (fun w h Y => PySem.W.kIn_of Y) ?F (fun _ _ a ns hl _ hS => ⟨a, ns, rfl, hS, hl, fun _ => rfl⟩) (fun _ _ _ _ _ h => h)
  case F =>
    intro w mg fa h KX G hmg
    refine' K2.all_mk KX G hmg ?aC ?xC ?sa ?ga ?gg ?nb ?iC ?tI ?lI ?cI ?kI ?kC ?eC ?tC ?hC ?isC ?sC ?zL ?vL ?a0 ?l0 ?c0 ?k0 ?a1 ?l1 ?c1 ?k1 ?a2 ?l2 ?c2 ?k2 ?a3 ?l3 ?c3 ?k3 ?a4 ?l4 ?c4 ?k4 ?a5 ?l5 ?c5 ?k5 ?a6 ?l6 ?c6 ?k6 ?a7 ?l7 ?c7 ?k7 ?a8 ?l8 ?c8 ?k8 ?a9 ?l9 ?c9 ?k9 ?a10 ?l10 ?c10 ?k10 ?a11 ?l11 ?c11 ?k11 ?a12 ?l12 ?c12 ?k12 ?a13 ?l13 ?c13 ?k13 ?a14 ?l14 ?c14 ?k14 ?a15 ?l15 ?c15 ?k15 ?a16 ?l16 ?c16 ?k16 ?a17 ?l17 ?c17 ?k17 ?a18 ?l18 ?c18 ?k18 ?a19 ?l19 ?c19 ?k19 ?a20 ?l20 ?c20 ?k20 ?a21 ?l21 ?c21 ?k21 ?a22 ?l22 ?c22 ?k22 ?a23 ?l23 ?c23 ?k23 ?a24 ?l24 ?c24 ?k24 ?a25 ?l25 ?c25 ?k25 ?z_isinstance ?z_len ?z_tuple ?z_list ?z_int ?z_bool ?z_str ?z_all ?z_range ?z_enumerate ?z_zip ?z_max ?z_abs
    (case aC => k_is)
    (case xC => k_is)
    (case sa => k_is)
    (case ga => k_is)
    (case gg => k_is)
    (case nb => k_is)
    (case iC => k_is)
    (case tI => k_is)
    (case lI => k_is)
    (case cI => k_is)
    (case kI => k_is)
    (case kC => k_is)
    (case eC => k_is)
    (case tC => k_is)
    (case hC => k_is)
    (case isC => k_is)
    (case sC => first | rfl | k_is)
    (case zL => k_is)
    (case vL => k_is)
    (case a0 => k_is)
    (case l0 => k_is)
    (case c0 => k_is)
    (case k0 => k_is)
    (case a1 => k_is)
    (case l1 => k_is)
    (case c1 => k_is)
    (case k1 => k_is)
    (case a2 => k_is)
    (case l2 => k_is)
    (case c2 => k_is)
    (case k2 => k_is)
    (case a3 => k_is)
    (case l3 => k_is)
    (case c3 => k_is)
    (case k3 => k_is)
    (case a4 => k_is)
    (case l4 => k_is)
    (case c4 => k_is)
    (case k4 => k_is)
    (case a5 => k_is)
    (case l5 => k_is)
    (case c5 => k_is)
    (case k5 => k_is)
    (case a6 => k_is)
    (case l6 => k_is)
    (case c6 => k_is)
    (case k6 => k_is)
    (case a7 => k_is)
    (case l7 => k_is)
    (case c7 => k_is)
    (case k7 => k_is)
    (case a8 => k_is)
    (case l8 => k_is)
    (case c8 => k_is)
    (case k8 => k_is)
    (case a9 => k_is)
    (case l9 => k_is)
    (case c9 => k_is)
    (case k9 => k_is)
    (case a10 => k_is)
    (case l10 => k_is)
    (case c10 => k_is)
    (case k10 => k_is)
    (case a11 => k_is)
    (case l11 => k_is)
    (case c11 => k_is)
    (case k11 => k_is)
    (case a12 => k_is)
    (case l12 => k_is)
    (case c12 => k_is)
    (case k12 => k_is)
    (case a13 => k_is)
    (case l13 => k_is)
    (case c13 => k_is)
    (case k13 => k_is)
    (case a14 => k_is)
    (case l14 => k_is)
    (case c14 => k_is)
    (case k14 => k_is)
    (case a15 => k_is)
    (case l15 => k_is)
    (case c15 => k_is)
    (case k15 => k_is)
    (case a16 => k_is)
    (case l16 => k_is)
    (case c16 => k_is)
    (case k16 => k_is)
    (case a17 => k_is)
    (case l17 => k_is)
    (case c17 => k_is)
    (case k17 => k_is)
    (case a18 => k_is)
    (case l18 => k_is)
    (case c18 => k_is)
    (case k18 => k_is)
    (case a19 => k_is)
    (case l19 => k_is)
    (case c19 => k_is)
    (case k19 => k_is)
    (case a20 => k_is)
    (case l20 => k_is)
    (case c20 => k_is)
    (case k20 => k_is)
    (case a21 => k_is)
    (case l21 => k_is)
    (case c21 => k_is)
    (case k21 => k_is)
    (case a22 => k_is)
    (case l22 => k_is)
    (case c22 => k_is)
    (case k22 => k_is)
    (case a23 => k_is)
    (case l23 => k_is)
    (case c23 => k_is)
    (case k23 => k_is)
    (case a24 => k_is)
    (case l24 => k_is)
    (case c24 => k_is)
    (case k24 => k_is)
    (case a25 => k_is)
    (case l25 => k_is)
    (case c25 => k_is)
    (case k25 => k_is)
    (case z_isinstance => k_is)
    (case z_len => k_is)
    (case z_tuple => k_is)
    (case z_list => k_is)
    (case z_int => k_is)
    (case z_bool => k_is)
    (case z_str => k_is)
    (case z_all => k_is)
    (case z_range => k_is)
    (case z_enumerate => k_is)
    (case z_zip => k_is)
    (case z_max => k_is)
    (case z_abs => k_is)
