import PyProof.Rows.All
import Wide.All
import OpenK.AllK
import Wide.FinOn
import HandS.ForMost
import HandS.Wide
import HandS.WideMore
import HandS.IsInst
import HandS.Zip
import HandS.TupAny
import HandS.Conv
import HandS.Exc
import KE.KExcInit
import HandS.ExcInit
import HandS.ExcField
import HandS.TryOnly
import HandS.ExcOwn
import HandS.WordsExc
import HandS.Flow
import HandS.TupMul
import HandS.Small
import KE.KDictZip
import KE.GoesMore
import KE.GoesEnum
import PyProof.TupleOfGen
import HandS.ExcValue
import KE.DatumOrd
import HandS.SetFor
import PyProof.SetRoads
import HandS.Style
import HandS.List
import PySem.Challenge.RW_placehues_k13_whole_books_bent
set_option Elab.async false
set_option linter.all false
set_option maxRecDepth 100000
set_option maxHeartbeats 4000000
noncomputable section
namespace Ph
open PySem PySem.Spec PyProof.Rows L2
/-- may be put aside: nothing else leans on it -/
def Aside : HO → Prop
  | .lst _ => True
  | .dK _ => True
  | _ => False
def hide (H : Hp) (o : List Addr) : Hp := fun a => if a ∈ o then none else H a
def back (H : Hp) (o : List Addr) (G : Hp) : Hp := fun a => if a ∈ o then H a else G a
theorem hide_in {H : Hp} {o : List Addr} {a : Addr} (h : a ∈ o) : hide H o a = none := if_pos h
theorem hide_out {H : Hp} {o : List Addr} {a : Addr} (h : a ∉ o) : hide H o a = H a := if_neg h
theorem back_in {H G : Hp} {o : List Addr} {a : Addr} (h : a ∈ o) : back H o G a = H a := if_pos h
theorem back_out {H G : Hp} {o : List Addr} {a : Addr} (h : a ∉ o) : back H o G a = G a := if_neg h
def Owned (H : Hp) (o : List Addr) : Prop := ∀ a ∈ o, ∃ x, H a = some x ∧ Aside x
theorem hide_some {H : Hp} {o : List Addr} {a : Addr} {x : HO} (h : hide H o a = some x) : a ∉ o ∧ H a = some x := by
  by_cases c : a ∈ o
  · rw [hide_in c] at h
    cases h
  · rw [hide_out c] at h
    exact ⟨c, h⟩
theorem owned_ne {H : Hp} {o : List Addr} (W : Owned H o) {a : Addr} {x : HO} (h : H a = some x) (n : ¬ Aside x) : a ∉ o := fun c => by
  obtain ⟨y, e, q⟩ := W a c
  rw [h] at e
  cases e
  exact n q
/-- a promise, with owned objects put aside meanwhile -/
def spHide (sp : Sp) : Sp := fun vs H Q E => ∃ o, Owned H o ∧ sp vs (hide H o) (fun v G => (∀ a ∈ o, G a = none) → Q v (back H o G)) E
section
variable {P : Program} {w : World} {K : PySem.W.Frag} {mg : Str → Option Value} {base : Heap}
theorem fn_hide {k : Nat} {f : Addr} {fd : FuncData} {ps : List Str} {sp : Sp} (F : FnOk P w K mg base CX0 k f fd ps sp) : FnOk P w K mg base CX0 k f fd ps (spHide sp) := by
  refine ⟨fun vs H Q E ⟨o, _, h⟩ => F.len _ _ _ _ h, fun A outer s H args us vs Q E hr e0 hb hv h => ?_⟩
  obtain ⟨o, W, h⟩ := h
  have nf : ∀ b ∈ o, b ∉ frs outer := fun b hb hf => by
    obtain ⟨x, e, _⟩ := W b hb
    rw [e0.frf b hf] at e
    cases e
  have toNone : ∀ {b : Addr}, H b = none → hide H o b = none := fun {b} n => by
    by_cases c : b ∈ o
    · exact hide_in c
    · rw [hide_out c]
      exact n
  have noTup : ∀ {b : Addr} {xs : List V}, H b = some (.tup xs) → b ∉ o := fun {b xs} e => owned_ne W e fun z => z
  have noOwn : ∀ {b c : Addr}, H b = some (.own c) → b ∉ o := fun {b c} e => owned_ne W e fun z => z
  have hok : HOk P w (hide H o) s.heap := fun a x e => by
    obtain ⟨c, e⟩ := hide_some e
    refine (e0.hok a x e).stay (fun b u _ q => q) (fun b q => ?_) fun b xs q => ?_
    · rw [hide_out (noOwn q)]
      exact q
    · rw [hide_out (noTup q)]
      exact q
  have e1 : Env0 P w K mg base A outer s (hide H o) :=
    ⟨e0.frames, e0.mod, fun b x e => ⟨(e0.bs b x e).1, toNone (e0.bs b x e).2⟩, e0.bsz, e0.funs, fun b hb => toNone (e0.frf b hb), hok, e0.bare⟩
  refine codeAny_mono (F.run A outer s (hide H o) args us vs _ E hr e1 hb hv h) fun r s' q => ?_
  cases r with
  | error e => exact q
  | ok fl =>
    cases fl with
    | next => exact q
    | brk => exact q
    | cont => exact q
    | ret u =>
      obtain ⟨v, G, os, bare, un, hk, rv, q⟩ := q
      have gone : ∀ a ∈ o, G a = none := fun a ha => by
        obtain ⟨x, e, _⟩ := W a ha
        obtain ⟨ob, hob⟩ : ∃ ob, s.heap.get? a = some ob := by
          have lt := e0.hok.lt e
          cases z : s.heap.get? a with
          | some ob => exact ⟨ob, rfl⟩
          | none =>
            have := e0.hok a x e
            have z2 : ∃ ob, s.heap.get? a = some ob := by
              obtain ⟨y, ey, ay⟩ := W a ha
              rw [e] at ey
              cases ey
              cases x with
              | lst xs => obtain ⟨_, _, _, _, e⟩ := this; exact ⟨_, e⟩
              | dK kvs => obtain ⟨_, _, _, _, o, _, _, e, _⟩ := this; exact ⟨_, e⟩
              | _ => exact ay.elim
            rw [z] at z2
            obtain ⟨ob, z2⟩ := z2
            cases z2
        exact un.free a ob hob (hide_in ha) (by simp)
      have same : ∀ a ∈ o, ∀ ob, s.heap.get? a = some ob → s'.heap.get? a = some ob := fun a ha ob e => un.keep a ob e (hide_in ha) (nf a ha) (by simp)
      refine ⟨v, back H o G, os, bare, ⟨fun b ob e n hb hx => un.keep b ob e (toNone n) hb hx, fun b ob e n hb hx => un.slot b ob e (toNone n) hb hx, fun b ob e n hx => ?_, un.there, fun b xs e => ?_, fun b ob x e => ?_, fun b ts e => ?_⟩, fun a x e => ?_, rv, q gone⟩
      · have c : b ∉ o := fun c => by
          obtain ⟨x, e', _⟩ := W b c
          rw [n] at e'
          cases e'
        rw [back_out c]
        exact un.free b ob e (toNone n) hx
      · rw [back_out (noTup e)]
        exact un.tups b xs (by rw [hide_out (noTup e)]; exact e)
      · have c : b ∉ o := owned_ne W e fun z => z
        rw [back_out c]
        exact un.frzs b ob x (by rw [hide_out c]; exact e)
      · have c : b ∉ o := owned_ne W e fun z => z
        rw [back_out c]
        exact un.tbls b ts (by rw [hide_out c]; exact e)
      · by_cases c : a ∈ o
        · rw [back_in c] at e
          obtain ⟨y, ey, ay⟩ := W a c
          rw [e] at ey
          cases ey
          have z := e0.hok a x e
          cases x with
          | lst xs =>
            obtain ⟨z1, its, n, rr, e2⟩ := z
            exact ⟨z1, its, n, rr, same a c _ e2⟩
          | dK kvs =>
            obtain ⟨z1, z2, vs', kv, ob, es, ep, e2, zz⟩ := z
            exact ⟨z1, z2, vs', kv, ob, es, ep, same a c _ e2, zz⟩
          | _ => exact ay.elim
        · rw [back_out c] at e
          refine (hk a x e).stay (fun b u _ q => q) (fun b q => ?_) fun b xs q => ?_
          · have c2 : b ∉ o := fun c2 => by
              rw [gone b c2] at q
              cases q
            rw [back_out c2]
            exact q
          · have c2 : b ∉ o := fun c2 => by
              rw [gone b c2] at q
              cases q
            rw [back_out c2]
            exact q
end
end Ph
namespace Ph
open PySem PySem.Spec PyProof.Rows L2
abbrev Ex (H H' : Hp) : Prop := Same H H'
mutual
inductive DD (K : PySem.W.Frag) (H : Hp) : V → PyData → Prop
  | non : DD K H .non .none
  | bl (b : Bool) : DD K H (.bl b) (.bool b)
  | int (i : Int) : DD K H (.int i) (.int i)
  | str (x : Str) : DD K H (.str x) (.str x)
  | lst {a : Addr} {xs : List V} {ds : List PyData} : H a = some (.lst xs) → DDs K H xs ds → DD K H (.ref a) (.list ds)
  | tup {a : Addr} {xs : List V} {ds : List PyData} : SqT K H a xs → DDs K H xs ds → DD K H (.ref a) (.tuple ds)
  | dct {a : Addr} {kvs : List (Key × V)} {ms : List (PyData × PyData)} : H a = some (.dK kvs) → DKs K H kvs ms → DD K H (.ref a) (.dict ms)
inductive DDs (K : PySem.W.Frag) (H : Hp) : List V → List PyData → Prop
  | nil : DDs K H [] []
  | cons {v : V} {vs : List V} {d : PyData} {ds : List PyData} : DD K H v d → DDs K H vs ds → DDs K H (v :: vs) (d :: ds)
inductive DKs (K : PySem.W.Frag) (H : Hp) : List (Key × V) → List (PyData × PyData) → Prop
  | nil : DKs K H [] []
  | cons {k : Int} {v : V} {kvs : List (Key × V)} {d : PyData} {ms : List (PyData × PyData)} : DD K H v d → DKs K H kvs ms → DKs K H ((.inl k, v) :: kvs) ((.int k, d) :: ms)
end
theorem ex_sqT {K : PySem.W.Frag} {H H' : Hp} {a : Addr} {xs : List V} (e : Ex H H') (h : SqT K H a xs) : SqT K H' a xs := by
  rcases h with (h | ⟨o, h⟩) | h
  · exact .inl (.inl (e _ _ h))
  · exact .inl (.inr ⟨o, e _ _ h⟩)
  · exact .inr h
section
variable {K : PySem.W.Frag} {H H' : Hp}
mutual
theorem DD.mono (e : Ex H H') : ∀ {v : V} {d : PyData}, DD K H v d → DD K H' v d
  | _, _, .non => .non
  | _, _, .bl b => .bl b
  | _, _, .int i => .int i
  | _, _, .str x => .str x
  | _, _, .lst h t => .lst (e _ _ h) (DDs.mono e t)
  | _, _, .tup h t => .tup (ex_sqT e h) (DDs.mono e t)
  | _, _, .dct h t => .dct (e _ _ h) (DKs.mono e t)
theorem DDs.mono (e : Ex H H') : ∀ {vs : List V} {ds : List PyData}, DDs K H vs ds → DDs K H' vs ds
  | _, _, .nil => .nil
  | _, _, .cons h t => .cons (DD.mono e h) (DDs.mono e t)
theorem DKs.mono (e : Ex H H') : ∀ {kvs : List (Key × V)} {ms : List (PyData × PyData)}, DKs K H kvs ms → DKs K H' kvs ms
  | _, _, .nil => .nil
  | _, _, .cons h t => .cons (DD.mono e h) (DKs.mono e t)
end
mutual
theorem DD.dp : ∀ {v : V} {d : PyData}, d.canLay0 = true → DD K H v d → Dp K H v d
  | _, _, _, .non => .non
  | _, _, _, .bl b => .bl b
  | _, _, _, .int i => .int i
  | _, _, _, .str x => .str x
  | _, _, c, .lst h t => .lst (SqL.of h) (DDs.dp (by simpa only [PyData.canLay0] using c) t)
  | _, _, c, .tup h t => .tup h (DDs.dp (by simpa only [PyData.canLay0] using c) t)
  | _, _, c, .dct h t => by simp [PyData.canLay0] at c
theorem DDs.dp : ∀ {vs : List V} {ds : List PyData}, PyData.canLayAll0 ds = true → DDs K H vs ds → DpAll K H vs ds
  | _, _, _, .nil => .nil
  | _, _, c, .cons h t => by
    simp only [PyData.canLayAll0, Bool.and_eq_true] at c
    exact .cons (DD.dp c.1 h) (DDs.dp c.2 t)
end
theorem DDs.length : ∀ {vs : List V} {ds : List PyData}, DDs K H vs ds → vs.length = ds.length
  | _, _, .nil => rfl
  | _, _, .cons _ t => by rw [List.length_cons, List.length_cons, DDs.length t]
theorem DDs.get : ∀ {vs : List V} {ds : List PyData} {i : Nat} {v : V} {d : PyData}, DDs K H vs ds → vs[i]? = some v → ds[i]? = some d → DD K H v d
  | _, _, i, v, d, .nil, h, _ => by simp at h
  | _, _, 0, v, d, .cons h t, e, e2 => by
    have e := Option.some.inj e
    have e2 := Option.some.inj e2
    subst e e2
    exact h
  | _, _, i + 1, v, d, .cons h t, e, e2 => DDs.get t (i := i) (by simpa using e) (by simpa using e2)
theorem DDs.at : ∀ {vs : List V} {ds : List PyData} {i : Nat} {d : PyData}, DDs K H vs ds → ds[i]? = some d → ∃ v, vs[i]? = some v ∧ DD K H v d := fun {vs ds i d} h e => by
  have hl := h.length
  have hi : i < ds.length := (List.getElem?_eq_some_iff.mp e).1
  have e3 : vs[i]? = some (vs[i]'(by omega)) := List.getElem?_eq_getElem (by omega)
  exact ⟨_, e3, h.get e3 e⟩
theorem DDs.append : ∀ {vs us : List V} {ds es : List PyData}, DDs K H vs ds → DDs K H us es → DDs K H (vs ++ us) (ds ++ es)
  | _, _, _, _, .nil, t => t
  | _, _, _, _, .cons h r, t => .cons h (DDs.append r t)
theorem DDs.take : ∀ {vs : List V} {ds : List PyData} (n : Nat), DDs K H vs ds → DDs K H (vs.take n) (ds.take n)
  | _, _, 0, _ => .nil
  | _, _, n + 1, .nil => .nil
  | _, _, n + 1, .cons h t => .cons h (DDs.take n t)
theorem DDs.drop : ∀ {vs : List V} {ds : List PyData} (n : Nat), DDs K H vs ds → DDs K H (vs.drop n) (ds.drop n)
  | _, _, 0, t => t
  | _, _, n + 1, .nil => .nil
  | _, _, n + 1, .cons h t => DDs.drop n t
theorem DDs.set {v : V} {d : PyData} (h : DD K H v d) : ∀ {vs : List V} {ds : List PyData} (i : Nat), DDs K H vs ds → DDs K H (vs.set i v) (ds.set i d)
  | _, _, _, .nil => .nil
  | _, _, 0, .cons _ t => .cons h t
  | _, _, i + 1, .cons q t => .cons q (DDs.set h i t)
theorem dd_tup {v : V} {ds : List PyData} (h : DD K H v (.tuple ds)) : ∃ a xs, v = .ref a ∧ SqT K H a xs ∧ DDs K H xs ds := by
  cases h with
  | tup h t => exact ⟨_, _, rfl, h, t⟩
theorem dd_lst {v : V} {ds : List PyData} (h : DD K H v (.list ds)) : ∃ a xs, v = .ref a ∧ H a = some (.lst xs) ∧ DDs K H xs ds := by
  cases h with
  | lst h t => exact ⟨_, _, rfl, h, t⟩
theorem dd_int {v : V} {i : Int} (h : DD K H v (.int i)) : v = .int i := by cases h; rfl
theorem dd_bool {v : V} {b : Bool} (h : DD K H v (.bool b)) : v = .bl b := by cases h; rfl
theorem dds_ints {ns : List Int} : ∀ {vs : List V}, DDs K H vs (ns.map PyData.int) → vs = ns.map V.int := by
  induction ns with
  | nil => intro vs h; cases h; rfl
  | cons n ns ih =>
    intro vs h
    cases h with
    | cons h t =>
      rw [dd_int h, ih t]
      rfl
theorem dds_of_ints : ∀ (ns : List Int), DDs K H (ns.map V.int) (ns.map PyData.int)
  | [] => .nil
  | n :: ns => .cons (.int n) (dds_of_ints ns)
theorem dds_bools {ns : List Bool} : ∀ {vs : List V}, DDs K H vs (ns.map PyData.bool) → vs = ns.map V.bl := by
  induction ns with
  | nil => intro vs h; cases h; rfl
  | cons n ns ih =>
    intro vs h
    cases h with
    | cons h t =>
      rw [dd_bool h, ih t]
      rfl
end
inductive En (K : PySem.W.Frag) (G : Hp) : List (Option V) → List (Option PyData) → Prop
  | nil : En K G [] []
  | no {x : Option V} {σ : List (Option V)} {ds : List (Option PyData)} : En K G σ ds → En K G (x :: σ) (none :: ds)
  | yes {v : V} {d : PyData} {σ : List (Option V)} {ds : List (Option PyData)} : DD K G v d → En K G σ ds → En K G (some v :: σ) (some d :: ds)
section
variable {K : PySem.W.Frag} {G G' : Hp}
theorem En.mono (e : Ex G G') : ∀ {σ : List (Option V)} {ds : List (Option PyData)}, En K G σ ds → En K G' σ ds
  | _, _, .nil => .nil
  | _, _, .no t => .no (En.mono e t)
  | _, _, .yes h t => .yes (h.mono e) (En.mono e t)
theorem En.get : ∀ {σ : List (Option V)} {ds : List (Option PyData)} {i : Nat} {d : PyData}, En K G σ ds → ds[i]? = some (some d) → ∃ v, σ[i]? = some (some v) ∧ DD K G v d
  | _, _, i, d, .nil, h => by simp at h
  | _, _, 0, d, .no t, h => by simp at h
  | _, _, 0, d, .yes (v := v) q t, h => by
    have h := Option.some.inj (Option.some.inj h)
    subst h
    exact ⟨v, rfl, q⟩
  | _, _, i + 1, d, .no t, h => by
    obtain ⟨v, e, q⟩ := En.get t (i := i) (d := d) (by simpa using h)
    exact ⟨v, by simpa using e, q⟩
  | _, _, i + 1, d, .yes _ t, h => by
    obtain ⟨v, e, q⟩ := En.get t (i := i) (d := d) (by simpa using h)
    exact ⟨v, by simpa using e, q⟩
theorem En.set {v : V} {d : PyData} (h : DD K G v d) : ∀ {σ : List (Option V)} {ds : List (Option PyData)} (i : Nat), En K G σ ds → En K G (σ.set i (some v)) (ds.set i (some d))
  | _, _, _, .nil => .nil
  | _, _, 0, .no t => .yes h t
  | _, _, 0, .yes _ t => .yes h t
  | _, _, i + 1, .no t => .no (En.set h i t)
  | _, _, i + 1, .yes q t => .yes q (En.set h i t)
theorem En.unset {x : Option V} : ∀ {σ : List (Option V)} {ds : List (Option PyData)} (i : Nat), En K G σ ds → En K G (σ.set i x) (ds.set i none)
  | _, _, _, .nil => .nil
  | _, _, 0, .no t => .no t
  | _, _, 0, .yes _ t => .no t
  | _, _, i + 1, .no t => .no (En.unset i t)
  | _, _, i + 1, .yes q t => .yes q (En.unset i t)
def wipeD (ds : List (Option PyData)) : List Nat → List (Option PyData)
  | [] => ds
  | v :: vs => (wipeD ds vs).set v none
theorem En.wipe {σ : List (Option V)} {ds : List (Option PyData)} (h : En K G σ ds) : ∀ vs : List Nat, En K G (L2.wipe σ vs) (wipeD ds vs)
  | [] => h
  | v :: vs => (En.wipe h vs).unset v
end
def EvD (K : PySem.W.Frag) (o : List Addr) (te : TE) (ds : List (Option PyData)) (d : PyData) : Prop :=
  ∀ σ H, En K (hide H o) σ ds → Owned H o → ∀ Q : VK, (∀ v H2, Ex H H2 → Owned H2 o → DD K (hide H2 o) v d → Q v H2) → te σ H Q
def EvA (K : PySem.W.Frag) (o : List Addr) (ta : TA) (ds : List (Option PyData)) (es : List PyData) : Prop :=
  ∀ σ H, En K (hide H o) σ ds → Owned H o → ∀ Q : List V → Hp → Prop, (∀ vs H2, Ex H H2 → Owned H2 o → DDs K (hide H2 o) vs es → Q vs H2) → ta σ H Q
def EvB (K : PySem.W.Frag) (o : List Addr) (tt : TT) (ds : List (Option PyData)) (b : Bool) : Prop :=
  ∀ σ H, En K (hide H o) σ ds → Owned H o → ∀ Q : Bool → Hp → Prop, (∀ H2, Ex H H2 → Owned H2 o → Q b H2) → tt σ H Q
theorem ex_hide {H H' : Hp} {o : List Addr} (e : Ex H H') : Ex (hide H o) (hide H' o) := fun a x h => by
  obtain ⟨c, h⟩ := hide_some h
  rw [hide_out c]
  exact e _ _ h
theorem ex_new {H : Hp} {p : Addr} {x : HO} (h : H p = none) : Ex H (upd H p x) := fun a u e => by
  rw [upd_ne (ne_of_none e h)]
  exact e
theorem ow_mono {H H' : Hp} {o : List Addr} (W : Owned H o) (e : Ex H H') : Owned H' o := fun a ha => by
  obtain ⟨x, h, q⟩ := W a ha
  exact ⟨x, e _ _ h, q⟩
theorem ow_new {H : Hp} {o : List Addr} {p : Addr} (W : Owned H o) (h : H p = none) : p ∉ o := fun c => by
  obtain ⟨x, e, _⟩ := W p c
  rw [h] at e
  cases e
theorem hide_new {H : Hp} {o : List Addr} {p : Addr} {x : HO} (W : Owned H o) (h : H p = none) : hide (upd H p x) o p = some x := by
  rw [hide_out (ow_new W h), upd_same]
section
variable {K : PySem.W.Frag} {o : List Addr} {ds : List (Option PyData)} {ta tb te : TE} {d e : PyData}
theorem ev_var {i : Nat} (h : ds[i]? = some (some d)) : EvD K o (tVar i) ds d := fun σ H E W Q q => by
  obtain ⟨v, e, x⟩ := E.get h
  exact ⟨v, e, q v H (Same.refl H) W x⟩
theorem ev_int {i : Int} : EvD K o (tC (.int i)) ds (.int i) := fun σ H E W Q q => q _ H (Same.refl H) W (.int i)
theorem ev_bl {b : Bool} : EvD K o (tC (.bl b)) ds (.bool b) := fun σ H E W Q q => q _ H (Same.refl H) W (.bl b)
theorem ev_str {x : Str} : EvD K o (tC (.str x)) ds (.str x) := fun σ H E W Q q => q _ H (Same.refl H) W (.str x)
theorem ev_non : EvD K o (tC .non) ds .none := fun σ H E W Q q => q _ H (Same.refl H) W .non
theorem ea_nil : EvA K o tNil ds [] := fun σ H E W Q q => q [] H (Same.refl H) W .nil
theorem ea_cons {t : TA} {es : List PyData} (h : EvD K o ta ds d) (r : EvA K o t ds es) : EvA K o (tCons ta t) ds (d :: es) := fun σ H E W Q q =>
  h σ H E W _ fun v H1 e1 W1 x => r σ H1 (E.mono (ex_hide e1)) W1 _ fun vs H2 e2 W2 xs => q _ H2 (e1.trans e2) W2 (.cons (x.mono (ex_hide e2)) xs)
theorem ev_tup {t : TA} {es : List PyData} (h : EvA K o t ds es) (hl : es.length ≤ sizeLine) : EvD K o (tTup t) ds (.tuple es) := fun σ H E W Q q =>
  h σ H E W _ fun vs H1 e1 W1 xs => ⟨by rw [xs.length]; exact hl, fun p hp => q _ _ (e1.trans (ex_new hp)) (ow_mono W1 (ex_new hp)) (.tup (SqT.of (hide_new W1 hp)) (xs.mono (ex_hide (ex_new hp))))⟩
theorem ev_lst {t : TA} {es : List PyData} (h : EvA K o t ds es) (hl : es.length ≤ sizeLine) : EvD K o (tLst t) ds (.list es) := fun σ H E W Q q =>
  h σ H E W _ fun vs H1 e1 W1 xs => ⟨by rw [xs.length]; exact hl, fun p hp => q _ _ (e1.trans (ex_new hp)) (ow_mono W1 (ex_new hp)) (.lst (hide_new W1 hp) (xs.mono (ex_hide (ex_new hp))))⟩
/-- an operator on data -/
def OpD (K : PySem.W.Frag) (o : List Addr) (r : R2) (a b d : PyData) : Prop :=
  ∀ x y H, Owned H o → DD K (hide H o) x a → DD K (hide H o) y b → ∀ Q : VK, (∀ v H2, Ex H H2 → Owned H2 o → DD K (hide H2 o) v d → Q v H2) → r x y H Q
theorem ev_op {r : R2} {a b : PyData} (h1 : EvD K o ta ds a) (h2 : EvD K o tb ds b) (hr : OpD K o r a b d) : EvD K o (tOp r ta tb) ds d := fun σ H E W Q q =>
  h1 σ H E W _ fun v H1 e1 W1 x => h2 σ H1 (E.mono (ex_hide e1)) W1 _ fun u H2 e2 W2 y => hr v u H2 W2 (x.mono (ex_hide e2)) y Q fun z H3 e3 W3 c => q z H3 (e1.trans (e2.trans e3)) W3 c
theorem od_I0 {g : Int → Int → V} {i j : Int} (h : ∀ G, DD K G (g i j) d) : OpD K o (rI0 g) (.int i) (.int j) d := fun x y H W hx hy Q q =>
  ⟨i, j, dd_int hx, dd_int hy, q _ H (Same.refl H) W (h _)⟩
theorem od_add {i j : Int} : OpD K o (rI0 fun i j => .int (i + j)) (.int i) (.int j) (.int (i + j)) := od_I0 fun _ => .int _
theorem od_lt {i j : Int} : OpD K o (rI0 fun i j => .bl (decide (i < j))) (.int i) (.int j) (.bool (decide (i < j))) := od_I0 fun _ => .bl _
theorem od_gt {i j : Int} : OpD K o (rI0 fun i j => .bl (decide (j < i))) (.int i) (.int j) (.bool (decide (j < i))) := od_I0 fun _ => .bl _
theorem od_ge {i j : Int} : OpD K o (rI0 fun i j => .bl (decide (j ≤ i))) (.int i) (.int j) (.bool (decide (j ≤ i))) := od_I0 fun _ => .bl _
theorem od_I {C : Int → Int → Prop} {g : Int → Int → V} {i j : Int} (hc : C i j) (h : ∀ G, DD K G (g i j) d) : OpD K o (rI C g) (.int i) (.int j) d := fun x y H W hx hy Q q =>
  ⟨i, j, dd_int hx, dd_int hy, hc, q _ H (Same.refl H) W (h _)⟩
theorem hide_ex {H : Hp} : Ex (hide H o) H := fun a u e => (hide_some e).2
theorem od_eqD' {a b : PyData} (h1 : SeqAt.shaped a = true) (h2 : SeqAt.shaped b = true) : OpD K o (rEqD K) a b (.bool (PyData.eqv a b)) := fun x y H W hx hy Q q =>
  ⟨a, b, (hx.mono hide_ex).dp (SeqAt.canLay_of_shaped h1), (hy.mono hide_ex).dp (SeqAt.canLay_of_shaped h2), h1, h2, q _ H (Same.refl H) W (.bl _)⟩
theorem od_eqI {i j : Int} : OpD K o rEq (.int i) (.int j) (.bool (decide (i = j))) := fun x y H W hx hy Q q => by
  rw [dd_int hx, dd_int hy]
  refine ⟨rfl, q _ H (Same.refl H) W ?_⟩
  have e : decide ((V.int i) = .int j) = decide (i = j) := decide_eq_decide.mpr ⟨fun h => V.int.inj h, fun h => by rw [h]⟩
  rw [e]
  exact .bl _
theorem od_eqB {i j : Bool} : OpD K o rEq (.bool i) (.bool j) (.bool (decide (i = j))) := fun x y H W hx hy Q q => by
  rw [dd_bool hx, dd_bool hy]
  refine ⟨rfl, q _ H (Same.refl H) W ?_⟩
  have e : decide ((V.bl i) = .bl j) = decide (i = j) := decide_eq_decide.mpr ⟨fun h => V.bl.inj h, fun h => by rw [h]⟩
  rw [e]
  exact .bl _
theorem od_neB {i j : Bool} : OpD K o rNe (.bool i) (.bool j) (.bool (!decide (i = j))) := fun x y H W hx hy Q q => by
  rw [dd_bool hx, dd_bool hy]
  refine ⟨rfl, q _ H (Same.refl H) W ?_⟩
  have e : decide ((V.bl i) = .bl j) = decide (i = j) := decide_eq_decide.mpr ⟨fun h => V.bl.inj h, fun h => by rw [h]⟩
  rw [e]
  exact .bl _
theorem od_neI {i j : Int} : OpD K o rNe (.int i) (.int j) (.bool (!decide (i = j))) := fun x y H W hx hy Q q => by
  rw [dd_int hx, dd_int hy]
  refine ⟨rfl, q _ H (Same.refl H) W ?_⟩
  have e : decide ((V.int i) = .int j) = decide (i = j) := decide_eq_decide.mpr ⟨fun h => V.int.inj h, fun h => by rw [h]⟩
  rw [e]
  exact .bl _
theorem at_dds {G : Hp} {xs : List V} {es : List PyData} {i : Int} (h : DDs K G xs es) (e : atI es i = some d) : ∃ v, atI xs i = some v ∧ DD K G v d := by
  unfold atI at e ⊢
  rw [← h.length] at e
  cases z : ixN xs.length i with
  | none => rw [z] at e; cases e
  | some j =>
    rw [z] at e
    exact h.at e
theorem od_ixT {es : List PyData} {i : Int} (e : atI es i = some d) : OpD K o (rIxT K) (.tuple es) (.int i) d := fun x y H W hx hy Q q => by
  obtain ⟨a, xs, rfl, h, t⟩ := dd_tup hx
  obtain ⟨v, hv, c⟩ := at_dds t e
  exact ⟨a, xs, i, v, rfl, dd_int hy, ex_sqT hide_ex h, hv, q v H (Same.refl H) W c⟩
theorem od_ixL {es : List PyData} {i : Int} (e : atI es i = some d) : OpD K o (rIxL K) (.list es) (.int i) d := fun x y H W hx hy Q q => by
  obtain ⟨a, xs, rfl, h, t⟩ := dd_lst hx
  obtain ⟨v, hv, c⟩ := at_dds t e
  exact ⟨a, xs, i, v, rfl, dd_int hy, SqL.of (hide_some h).2, hv, q v H (Same.refl H) W c⟩
theorem od_cat {as bs : List PyData} (hl : as.length + bs.length ≤ sizeLine) : OpD K o rCat (.list as) (.list bs) (.list (as ++ bs)) := fun x y H W hx hy Q q => by
  obtain ⟨a, xs, rfl, h, t⟩ := dd_lst hx
  obtain ⟨b, ys, rfl, h2, t2⟩ := dd_lst hy
  refine ⟨a, b, xs, ys, rfl, rfl, (hide_some h).2, (hide_some h2).2, by rw [t.length, t2.length]; exact hl, fun p hp => ?_⟩
  exact q _ _ (ex_new hp) (ow_mono W (ex_new hp)) (.lst (hide_new W hp) ((t.append t2).mono (ex_hide (ex_new hp))))
theorem od_catA {as bs : List PyData} (hl : as.length + bs.length ≤ sizeLine) : OpD K o (rCatA K) (.tuple as) (.tuple bs) (.tuple (as ++ bs)) := fun x y H W hx hy Q q => by
  obtain ⟨a, xs, rfl, h, t⟩ := dd_tup hx
  obtain ⟨b, ys, rfl, h2, t2⟩ := dd_tup hy
  have l1 := t.length
  have l2 := t2.length
  refine ⟨a, b, xs, ys, rfl, rfl, ex_sqT hide_ex h, ex_sqT hide_ex h2, by omega, fun z => ?_, fun _ z => ?_, fun _ _ p hp => ?_⟩
  · subst z
    have e : as = [] := List.eq_nil_of_length_eq_zero (by rw [← l1]; rfl)
    subst e
    exact q _ H (Same.refl H) W hy
  · subst z
    have e : bs = [] := List.eq_nil_of_length_eq_zero (by rw [← l2]; rfl)
    subst e
    refine q _ H (Same.refl H) W ?_
    rw [List.append_nil]
    exact hx
  · exact q _ _ (ex_new hp) (ow_mono W (ex_new hp)) (.tup (SqT.of (hide_new W hp)) ((t.append t2).mono (ex_hide (ex_new hp))))
theorem eb_test {b : Bool} (h : EvD K o te ds (.bool b)) : EvB K o (tTest te) ds b := fun σ H E W Q q =>
  h σ H E W _ fun v H1 e1 W1 x => ⟨b, dd_bool x, q H1 e1 W1⟩
theorem eb_B {b : Bool} (h : EvD K o te ds (.bool b)) : EvB K o (tB te) ds b := fun σ H E W Q q =>
  h σ H E W _ fun v H1 e1 W1 x => ⟨b, dd_bool x, q H1 e1 W1⟩
theorem eb_not {t : TT} {b : Bool} (h : EvB K o t ds b) : EvB K o (tNot t) ds (!b) := fun σ H E W Q q => h σ H E W _ fun H1 e1 W1 => q H1 e1 W1
theorem eb_or {t u : TT} {a b : Bool} (h1 : EvB K o t ds a) (h2 : a = false → EvB K o u ds b) : EvB K o (tOr t u) ds (a || b) := fun σ H E W Q q =>
  h1 σ H E W _ fun H1 e1 W1 => by
    cases a with
    | true =>
      refine iteT ?_
      exact q H1 e1 W1
    | false =>
      refine iteF ?_
      exact h2 rfl σ H1 (E.mono (ex_hide e1)) W1 _ fun H2 e2 W2 => q H2 (e1.trans e2) W2
theorem ev_andV {a b : Bool} (h1 : EvD K o ta ds (.bool a)) (h2 : a = true → EvD K o tb ds (.bool b)) : EvD K o (tAndV ta tb) ds (.bool (a && b)) := fun σ H E W Q q =>
  h1 σ H E W _ fun v H1 e1 W1 x => by
    refine ⟨a, dd_bool x, ?_⟩
    cases a with
    | true =>
      refine iteT ?_
      exact h2 rfl σ H1 (E.mono (ex_hide e1)) W1 _ fun v H2 e2 W2 y => q v H2 (e1.trans e2) W2 y
    | false =>
      refine iteF ?_
      exact q _ H1 e1 W1 (.bl _)
theorem ev_notV {a : Bool} (h1 : EvD K o ta ds (.bool a)) : EvD K o (tNotV ta) ds (.bool (!a)) := fun σ H E W Q q =>
  h1 σ H E W _ fun v H1 e1 W1 x => ⟨a, dd_bool x, q _ H1 e1 W1 (.bl _)⟩
theorem ev_ifE {t : TT} {b : Bool} (h : EvB K o t ds b) (h1 : b = true → EvD K o ta ds d) (h2 : b = false → EvD K o tb ds d) : EvD K o (tIf t ta tb) ds d := fun σ H E W Q q =>
  h σ H E W _ fun H1 e1 W1 => by
    cases b with
    | true =>
      refine iteT ?_
      exact h1 rfl σ H1 (E.mono (ex_hide e1)) W1 _ fun v H2 e2 W2 y => q v H2 (e1.trans e2) W2 y
    | false =>
      refine iteF ?_
      exact h2 rfl σ H1 (E.mono (ex_hide e1)) W1 _ fun v H2 e2 W2 y => q v H2 (e1.trans e2) W2 y
def CbD (K : PySem.W.Frag) (o : List Addr) (r : List V → Hp → VK → Prop) (as : List PyData) (d : PyData) : Prop :=
  ∀ xs H, Owned H o → DDs K (hide H o) xs as → ∀ Q : VK, (∀ v H2, Ex H H2 → Owned H2 o → DD K (hide H2 o) v d → Q v H2) → r xs H Q
theorem ev_cb {r : List V → Hp → VK → Prop} {t : TA} {as : List PyData} (h : EvA K o t ds as) (hr : CbD K o r as d) : EvD K o (tCB r t) ds d := fun σ H E W Q q =>
  h σ H E W _ fun vs H1 e1 W1 xs => hr vs H1 W1 xs Q fun v H2 e2 W2 y => q v H2 (e1.trans e2) W2 y
/-- a pure def's promise -/
def spD (K : PySem.W.Frag) (n : Nat) (R : List PyData → PyData → Prop) : Sp := fun vs H Q _ => ∃ as d, DDs K H vs as ∧ as.length = n ∧ R as d ∧ ∀ v H', Ex H H' → DD K H' v d → Q v H'
theorem back_hide {H G : Hp} (g : ∀ a ∈ o, G a = none) : hide (back H o G) o = G := by
  funext a
  by_cases c : a ∈ o
  · rw [hide_in c, g a c]
  · rw [hide_out c, back_out c]
theorem back_ex {H G : Hp} (e : Ex (hide H o) G) : Ex H (back H o G) := fun a x h => by
  by_cases c : a ∈ o
  · rw [back_in c]
    exact h
  · rw [back_out c]
    exact e a x (by rw [hide_out c]; exact h)
theorem ev_call {n : Nat} {R : List PyData → PyData → Prop} {E : XK} {t : TA} {as : List PyData} (h : EvA K o t ds as) (hn : as.length = n) (hr : R as d) : EvD K o (tCall (spHide (spD K n R)) [] E t) ds d := fun σ H En W Q q =>
  h σ H En W _ fun vs H1 e1 W1 xs => by
    show spHide (spD K n R) (vs ++ []) H1 Q E
    rw [List.append_nil]
    refine ⟨o, W1, as, d, xs, hn, hr, fun v G e x g => ?_⟩
    refine q v _ (e1.trans (back_ex e)) (ow_mono W1 (back_ex e)) ?_
    rw [back_hide g]
    exact x
end
end Ph
namespace Ph
open PySem PySem.Spec PyProof.Rows L2
/-- J hands out values of the data es, one after another, as long as the frozen part G stands -/
def ItD (K : PySem.W.Frag) (G : Hp) (J : It) (es : List PyData) : Prop := ∀ (H : Hp) (o : List Addr), Ex G (hide H o) → Owned H o → ∀ i : Nat,
  (∀ e, es[i]? = some e → J.go i H ∧ ∀ x H', J.yld i H x H' → Ex H H' ∧ DD K (hide H' o) x e) ∧ (es.length ≤ i → J.stop i H)
def EvI (K : PySem.W.Frag) (o : List Addr) (wi : TI) (ds : List (Option PyData)) (es : List PyData) : Prop :=
  ∀ σ H, En K (hide H o) σ ds → Owned H o → ∀ R : It → Hp → Prop, (∀ J H2, Ex H H2 → Owned H2 o → ItD K (hide H2 o) J es → R J H2) → wi σ H R
section
variable {K : PySem.W.Frag} {o : List Addr} {ds : List (Option PyData)} {ta tb te : TE} {d e : PyData}
theorem it_tup {G : Hp} {a : Addr} {xs : List V} {es : List PyData} (h : SqT K G a xs) (t : DDs K G xs es) : ItD K G (Itt K a) es := fun H o g W i => by
  refine ⟨fun e he => ?_, fun hi => ?_⟩
  · obtain ⟨v, hv, c⟩ := t.at he
    refine ⟨⟨xs, v, ex_sqT hide_ex (ex_sqT g h), hv⟩, fun x H' y => ?_⟩
    obtain ⟨rfl, f⟩ := y
    have e2 := f xs (ex_sqT hide_ex (ex_sqT g h))
    rw [hv] at e2
    cases e2
    exact ⟨Same.refl _, c.mono g⟩
  · exact ⟨xs, ex_sqT hide_ex (ex_sqT g h), by rw [t.length]; exact hi⟩
theorem it_lst {G : Hp} {a : Addr} {xs : List V} {es : List PyData} (h : G a = some (.lst xs)) (t : DDs K G xs es) : ItD K G (Itl K a) es := fun H o g W i => by
  have h2 : SqL K H a xs := SqL.of (hide_ex _ _ (g _ _ h))
  refine ⟨fun e he => ?_, fun hi => ?_⟩
  · obtain ⟨v, hv, c⟩ := t.at he
    refine ⟨⟨xs, v, h2, hv⟩, fun x H' y => ?_⟩
    obtain ⟨rfl, f⟩ := y
    have e2 := f xs h2
    rw [hv] at e2
    cases e2
    exact ⟨Same.refl _, c.mono g⟩
  · exact ⟨xs, h2, by rw [t.length]; exact hi⟩
theorem it_rng {G : Hp} {lo : Int} {n : Nat} : ItD K G (Itr lo n) ((List.range n).map fun i => .int (lo + (i : Nat))) := fun H o g W i => by
  refine ⟨fun e he => ?_, fun hi => ?_⟩
  · rw [List.getElem?_map] at he
    have hi : i < n := by
      by_cases c : i < n
      · exact c
      · rw [List.getElem?_eq_none (by rw [List.length_range]; omega)] at he
        cases he
    rw [List.getElem?_eq_getElem (by rw [List.length_range]; exact hi), List.getElem_range] at he
    have he := Option.some.inj he
    refine ⟨hi, fun x H' y => ?_⟩
    obtain ⟨rfl, rfl⟩ := y
    rw [← he]
    exact ⟨Same.refl _, .int _⟩
  · rw [List.length_map, List.length_range] at hi
    exact hi
theorem pairUp {H : Hp} {o : List Addr} {x y : V} {a b : PyData} {T : Addr} (W : Owned H o) (n : H T = none) (h1 : DD K (hide H o) x a) (h2 : DD K (hide H o) y b) :
    Ex H (upd H T (.tup [x, y])) ∧ DD K (hide (upd H T (.tup [x, y])) o) (.ref T) (.tuple [a, b]) :=
  ⟨ex_new n, .tup (SqT.of (hide_new W n)) (.cons (h1.mono (ex_hide (ex_new n))) (.cons (h2.mono (ex_hide (ex_new n))) .nil))⟩
def zipD (as bs : List PyData) : List PyData := (as.zip bs).map fun p => .tuple [p.1, p.2]
theorem zipD_get {as bs : List PyData} {i : Nat} {e : PyData} (h : (zipD as bs)[i]? = some e) : ∃ a b, as[i]? = some a ∧ bs[i]? = some b ∧ e = .tuple [a, b] := by
  unfold zipD at h
  rw [List.getElem?_map] at h
  cases z : (as.zip bs)[i]? with
  | none => rw [z] at h; cases h
  | some p =>
    rw [z] at h
    have h := Option.some.inj h
    rw [List.getElem?_zip_eq_some] at z
    exact ⟨p.1, p.2, z.1, z.2, h.symm⟩
theorem zipD_len {as bs : List PyData} : (zipD as bs).length = min as.length bs.length := by
  unfold zipD
  rw [List.length_map, List.length_zip]
theorem it_zipT {G : Hp} {a b : Addr} {xs ys : List V} {as bs : List PyData} (h : SqT K G a xs) (h' : SqT K G b ys) (t : DDs K G xs as) (t' : DDs K G ys bs) : ItD K G (RZ.ItzT K a b) (zipD as bs) := fun H o g W i => by
  have q1 := ex_sqT hide_ex (ex_sqT g h)
  have q2 := ex_sqT hide_ex (ex_sqT g h')
  refine ⟨fun e he => ?_, fun hi => ?_⟩
  · obtain ⟨a', b', e1, e2, rfl⟩ := zipD_get he
    obtain ⟨v, hv, c⟩ := t.at e1
    obtain ⟨v', hv', c'⟩ := t'.at e2
    refine ⟨⟨xs, ys, v, v', q1, q2, hv, hv'⟩, fun x H' y => ?_⟩
    obtain ⟨T, x1, x2, rfl, nT, rfl, f1, f2⟩ := y
    have e1 := f1 xs q1
    have e2 := f2 ys q2
    rw [hv] at e1
    rw [hv'] at e2
    cases e1
    cases e2
    exact pairUp W nT (c.mono g) (c'.mono g)
  · rw [zipD_len] at hi
    refine ⟨xs, ys, q1, q2, ?_⟩
    rw [t.length, t'.length]
    omega
theorem it_zipL {G : Hp} {a b : Addr} {xs ys : List V} {as bs : List PyData} (h : G a = some (.lst xs)) (h' : G b = some (.lst ys)) (t : DDs K G xs as) (t' : DDs K G ys bs) : ItD K G (Itz K a b) (zipD as bs) := fun H o g W i => by
  have q1 : SqL K H a xs := SqL.of (hide_ex _ _ (g _ _ h))
  have q2 : SqL K H b ys := SqL.of (hide_ex _ _ (g _ _ h'))
  refine ⟨fun e he => ?_, fun hi => ?_⟩
  · obtain ⟨a', b', e1, e2, rfl⟩ := zipD_get he
    obtain ⟨v, hv, c⟩ := t.at e1
    obtain ⟨v', hv', c'⟩ := t'.at e2
    refine ⟨⟨xs, ys, v, v', q1, q2, hv, hv'⟩, fun x H' y => ?_⟩
    obtain ⟨T, x1, x2, rfl, nT, rfl, f1, f2⟩ := y
    have e1 := f1 xs q1
    have e2 := f2 ys q2
    rw [hv] at e1
    rw [hv'] at e2
    cases e1
    cases e2
    exact pairUp W nT (c.mono g) (c'.mono g)
  · rw [zipD_len] at hi
    refine ⟨xs, ys, q1, q2, ?_⟩
    rw [t.length, t'.length]
    omega
def enumD (es : List PyData) : List PyData := es.mapIdx fun i e => .tuple [.int (i : Nat), e]
theorem it_enum {G : Hp} {a : Addr} {xs : List V} {es : List PyData} (h : G a = some (.lst xs)) (t : DDs K G xs es) : ItD K G (Ite K a) (enumD es) := fun H o g W i => by
  have q1 : SqL K H a xs := SqL.of (hide_ex _ _ (g _ _ h))
  refine ⟨fun e he => ?_, fun hi => ?_⟩
  · unfold enumD at he
    rw [List.getElem?_mapIdx] at he
    cases z : es[i]? with
    | none => rw [z] at he; cases he
    | some a' =>
      rw [z] at he
      have he := Option.some.inj he
      obtain ⟨v, hv, c⟩ := t.at z
      refine ⟨⟨xs, v, q1, hv⟩, fun x H' y => ?_⟩
      obtain ⟨T, x1, rfl, nT, rfl, f1⟩ := y
      have e1 := f1 xs q1
      rw [hv] at e1
      cases e1
      rw [← he]
      exact pairUp W nT (.int _) (c.mono g)
  · unfold enumD at hi
    rw [List.length_mapIdx] at hi
    exact ⟨xs, q1, by rw [t.length]; exact hi⟩
theorem ei_tup {es : List PyData} (h : EvD K o ta ds (.tuple es)) : EvI K o (iTup K ta) ds es := fun σ H E W R r =>
  h σ H E W _ fun v H2 e2 W2 x => by
    obtain ⟨a, xs, rfl, q, t⟩ := dd_tup x
    exact ⟨a, rfl, ⟨xs, ex_sqT hide_ex q⟩, r _ H2 e2 W2 (it_tup q t)⟩
theorem ei_lst {es : List PyData} (h : EvD K o ta ds (.list es)) : EvI K o (iList K ta) ds es := fun σ H E W R r =>
  h σ H E W _ fun v H2 e2 W2 x => by
    obtain ⟨a, xs, rfl, q, t⟩ := dd_lst x
    exact ⟨a, rfl, ⟨xs, SqL.of (hide_some q).2⟩, r _ H2 e2 W2 (it_lst q t)⟩
theorem ei_rng1 {n : Int} (h : EvD K o ta ds (.int n)) (h1 : -(2 ^ 62) ≤ n) (h2 : n < 2 ^ 62) : EvI K o (iRng1 (tCons ta tNil)) ds ((List.range n.toNat).map fun i => .int (0 + (i : Nat))) := fun σ H E W R r =>
  h σ H E W _ fun v H2 e2 W2 x => ⟨n, by rw [dd_int x], h1, h2, r _ H2 e2 W2 it_rng⟩
theorem ei_enum {es : List PyData} (h : EvD K o ta ds (.list es)) : EvI K o (iEnum K (tCons ta tNil)) ds (enumD es) := fun σ H E W R r =>
  h σ H E W _ fun v H2 e2 W2 x => by
    obtain ⟨a, xs, rfl, q, t⟩ := dd_lst x
    exact ⟨a, xs, rfl, SqL.of (hide_some q).2, r _ H2 e2 W2 (it_enum q t)⟩
theorem ei_zipT {as bs : List PyData} (h : EvD K o ta ds (.tuple as)) (h' : EvD K o tb ds (.tuple bs)) : EvI K o (RZ.iZipA K (tCons ta (tCons tb tNil))) ds (zipD as bs) := fun σ H E W R r =>
  h σ H E W _ fun v H1 e1 W1 x => h' σ H1 (E.mono (ex_hide e1)) W1 _ fun u H2 e2 W2 y => by
    obtain ⟨a, xs, rfl, q, t⟩ := dd_tup (x.mono (ex_hide e2))
    obtain ⟨b, ys, rfl, q', t'⟩ := dd_tup y
    exact ⟨a, b, xs, ys, rfl, .inr ⟨ex_sqT hide_ex q, ex_sqT hide_ex q', r _ H2 (e1.trans e2) W2 (it_zipT q q' t t')⟩⟩
theorem ei_zipL {as bs : List PyData} (h : EvD K o ta ds (.list as)) (h' : EvD K o tb ds (.list bs)) : EvI K o (RZ.iZipA K (tCons ta (tCons tb tNil))) ds (zipD as bs) := fun σ H E W R r =>
  h σ H E W _ fun v H1 e1 W1 x => h' σ H1 (E.mono (ex_hide e1)) W1 _ fun u H2 e2 W2 y => by
    obtain ⟨a, xs, rfl, q, t⟩ := dd_lst (x.mono (ex_hide e2))
    obtain ⟨b, ys, rfl, q', t'⟩ := dd_lst y
    exact ⟨a, b, xs, ys, rfl, .inl ⟨SqL.of (hide_some q).2, SqL.of (hide_some q').2, r _ H2 (e1.trans e2) W2 (it_zipL q q' t t')⟩⟩
/-- binding data e at g turns the slots' data ds into ds' -/
def GtD (K : PySem.W.Frag) (g : TG) (ds : List (Option PyData)) (e : PyData) (ds' : List (Option PyData)) : Prop :=
  ∀ x σ H o, DD K (hide H o) x e → En K (hide H o) σ ds → ∀ Q : L2.St → Hp → Prop, (∀ σ', En K (hide H o) σ' ds' → Q σ' H) → g x σ H Q
def GtW (g : TG) (vs : List Nat) : Prop := ∀ x σ H (Q : L2.St → Hp → Prop), g x σ H Q → g x σ H fun σ' H' => L2.wipe σ' vs = L2.wipe σ vs ∧ Q σ' H'
theorem gt_name {i : Nat} : GtD K (gName i) ds e (ds.set i (some e)) := fun x σ H o h E Q q => q _ (E.set h i)
theorem gt_two {i j : Nat} {a b : PyData} : GtD K (gTup K 2 (gCons (gName i) (gCons (gName j) gNil))) ds (.tuple [a, b]) ((ds.set i (some a)).set j (some b)) := fun x σ H o h E Q q => by
  obtain ⟨p, xs, rfl, hq, t⟩ := dd_tup h
  cases t with
  | cons h1 t =>
    cases t with
    | cons h2 t =>
      cases t
      exact ⟨p, _, rfl, ex_sqT hide_ex hq, rfl, _, _, rfl, _, _, rfl, rfl, q _ ((E.set h1 i).set h2 j)⟩
theorem set_none_comm {σ : L2.St} {i j : Nat} {x : Option V} (h : i ≠ j) : (σ.set i x).set j none = (σ.set j none).set i x := List.set_comm x none h
theorem wipe_set {σ : L2.St} {x : Option V} {i : Nat} : ∀ {vs : List Nat}, i ∈ vs → L2.wipe (σ.set i x) vs = L2.wipe σ vs
  | [], h => by cases h
  | v :: vs, h => by
    show (L2.wipe (σ.set i x) vs).set v none = (L2.wipe σ vs).set v none
    by_cases c : i ∈ vs
    · rw [wipe_set c]
    · have e : i = v := by
        rcases List.mem_cons.mp h with e | e
        · exact e
        · exact absurd e c
      subst e
      have z : ∀ (ws : List Nat) (σ : L2.St), i ∉ ws → L2.wipe (σ.set i x) ws = (L2.wipe σ ws).set i x := by
        intro ws
        induction ws with
        | nil => intro σ _; rfl
        | cons w ws ih =>
          intro σ hw
          have hw1 : i ≠ w := fun e => hw (by rw [e]; exact List.mem_cons_self)
          have hw2 : i ∉ ws := fun e => hw (List.mem_cons_of_mem _ e)
          show (L2.wipe (σ.set i x) ws).set w none = ((L2.wipe σ ws).set w none).set i x
          rw [ih σ hw2, set_none_comm hw1]
      rw [z vs σ c, List.set_set]
theorem gw_name {i : Nat} {vs : List Nat} (h : i ∈ vs) : GtW (gName i) vs := fun x σ H Q q => ⟨wipe_set h, q⟩
theorem gw_two {i j : Nat} {vs : List Nat} (h : i ∈ vs) (h' : j ∈ vs) : GtW (gTup K 2 (gCons (gName i) (gCons (gName j) gNil))) vs := fun x σ H Q q => by
  obtain ⟨a, xs, rfl, hq, hl, v, r, rfl, v2, r2, rfl, rfl, q⟩ := q
  exact ⟨a, _, rfl, hq, hl, v, _, rfl, v2, _, rfl, rfl, by rw [wipe_set h', wipe_set h], q⟩
theorem wipe_wipe {σ : L2.St} {vs ws : List Nat} (h : ∀ v ∈ ws, v ∈ vs) : L2.wipe (L2.wipe σ ws) vs = L2.wipe σ vs := by
  induction ws with
  | nil => rfl
  | cons w ws ih =>
    show L2.wipe ((L2.wipe σ ws).set w none) vs = L2.wipe σ vs
    rw [wipe_set (h w List.mem_cons_self), ih fun v hv => h v (List.mem_cons_of_mem _ hv)]
/-- [elt for target in iter if test]: keep and f say what the test and the element are worth at each datum -/
theorem ev_lc {wi : TI} {g : TG} {tt : TT} {vs : List Nat} {α : Type} (c : α → PyData) {xs : List α} (keep : α → Bool) (f : α → PyData) (ds' : α → List (Option PyData)) (hi : EvI K o wi ds (xs.map c)) (hl : xs.length ≤ 1000000) (hw : GtW g vs)
    (hg : ∀ e ∈ xs, GtD K g (wipeD ds vs) (c e) (ds' e)) (ht : ∀ e ∈ xs, ∀ o, EvB K o tt (ds' e) (keep e)) (he : ∀ e ∈ xs, keep e = true → ∀ o, EvD K o te (ds' e) (f e)) :
    EvD K o (tLc wi g tt te vs) ds (.list ((xs.filter keep).map f)) := fun σ H E W Q q =>
  hi σ H E W _ fun J H1 e1 W1 it D nD => by
    have nDo : D ∉ o := ow_new W1 nD
    have hG : ∀ {H' : Hp}, (∀ a x, a ≠ D → H1 a = some x → H' a = some x) → Ex (hide H1 o) (hide H' (D :: o)) := fun {H'} k a x z => by
      obtain ⟨cc, z⟩ := hide_some z
      have n : a ≠ D := ne_of_none z nD
      rw [hide_out (fun m => by rcases List.mem_cons.mp m with m | m; exact n m; exact cc m)]
      exact k a x n z
    refine ⟨fun i m H2 => m = xs.length - i ∧ i ≤ xs.length ∧ Ex H1 H2 ∧ ∃ acc, H2 D = some (.lst acc) ∧ DDs K (hide H2 (D :: o)) acc (((xs.take i).filter keep).map f), ⟨xs.length, ?_⟩, fun i m H2 w => ?_⟩
    · refine ⟨rfl, Nat.zero_le _, ex_new nD, [], upd_same, ?_⟩
      exact .nil
    · obtain ⟨rfl, hi, ex2, acc, hD, t⟩ := w
      have W2 : Owned H2 (D :: o) := fun a ha => by
        rcases List.mem_cons.mp ha with rfl | ha
        · exact ⟨_, hD, True.intro⟩
        · exact ow_mono W1 ex2 a ha
      have G2 : Ex (hide H1 o) (hide H2 (D :: o)) := hG fun a x _ z => ex2 a x z
      by_cases cl : i < xs.length
      · obtain ⟨e, he'⟩ : ∃ e, xs[i]? = some e := ⟨_, List.getElem?_eq_getElem cl⟩
        have hm : e ∈ xs := List.mem_of_getElem? he'
        obtain ⟨go, yl⟩ := (it H2 (D :: o) G2 W2 i).1 (c e) (by rw [List.getElem?_map, he']; rfl)
        have tk : xs.take (i + 1) = xs.take i ++ [e] := by rw [List.take_add_one, he']; rfl
        refine .inr ⟨go, fun H3 => Ex H1 H3 ∧ ∃ acc, H3 D = some (.lst acc) ∧ DDs K (hide H3 (D :: o)) acc (((xs.take (i + 1)).filter keep).map f), fun H' n => ⟨xs.length - (i + 1), by omega, rfl, cl, n.1, n.2⟩, fun x H' y => ?_⟩
        obtain ⟨ex3, hx⟩ := yl x H' y
        have W3 := ow_mono W2 ex3
        have E3 : En K (hide H' (D :: o)) (L2.wipe σ vs) (wipeD ds vs) := ((E.mono (ex_hide e1)).mono (G2.trans (ex_hide ex3))).wipe vs
        refine (show g x (L2.wipe σ vs) H' _ from ?_)
        have ww : L2.wipe (L2.wipe σ vs) vs = L2.wipe σ vs := wipe_wipe fun v hv => hv
        have z := hw x (L2.wipe σ vs) H' (fun σ2 H3 => tt σ2 H3 fun b H4 => if b = true then te σ2 H4 fun y H5 => ∃ acc, H5 D = some (.lst acc) ∧ acc.length < sizeLine ∧ (Ex H1 (upd H5 D (.lst (acc ++ [y]))) ∧ ∃ acc2, (upd H5 D (.lst (acc ++ [y]))) D = some (.lst acc2) ∧ DDs K (hide (upd H5 D (.lst (acc ++ [y]))) (D :: o)) acc2 (((xs.take (i + 1)).filter keep).map f)) else (Ex H1 H4 ∧ ∃ acc2, H4 D = some (.lst acc2) ∧ DDs K (hide H4 (D :: o)) acc2 (((xs.take (i + 1)).filter keep).map f)))
          (hg e hm x (L2.wipe σ vs) H' (D :: o) hx E3 _ fun σ2 E4 => ht e hm (D :: o) σ2 H' E4 W3 _ fun H4 ex4 W4 => ?_)
        · rw [ww] at z
          exact z
        · by_cases ck : keep e = true
          · rw [if_pos ck]
            refine he e hm ck (D :: o) σ2 H4 (E4.mono (ex_hide ex4)) W4 _ fun y H5 ex5 W5 hy => ?_
            have ex25 : Ex H2 H5 := ex3.trans (ex4.trans ex5)
            refine ⟨acc, ex25 _ _ hD, ?_, ?_, acc ++ [y], upd_same, ?_⟩
            · have l := t.length
              rw [l, List.length_map]
              have l2 : ((xs.take i).filter keep).length ≤ (xs.take i).length := List.length_filter_le ..
              rw [List.length_take] at l2
              exact Nat.lt_of_le_of_lt (show _ ≤ 1000000 by omega) (by decide)
            · intro a x h
              rw [upd_ne (ne_of_none h nD)]
              exact ex25 _ _ (ex2 _ _ h)
            · rw [tk, List.filter_append, List.map_append]
              have e1 : ([e].filter keep).map f = [f e] := by
                rw [List.filter_cons_of_pos ck]
                rfl
              rw [e1]
              have hh : hide (upd H5 D (.lst (acc ++ [y]))) (D :: o) = hide H5 (D :: o) := by
                funext a
                by_cases m : a ∈ D :: o
                · rw [hide_in m, hide_in m]
                · rw [hide_out m, hide_out m, upd_ne (fun z => m (by rw [z]; exact List.mem_cons_self))]
              rw [hh]
              exact (t.mono (ex_hide ex25)).append (.cons hy .nil)
          · rw [if_neg ck]
            refine ⟨ex2.trans (ex3.trans ex4), acc, ex4 _ _ (ex3 _ _ hD), ?_⟩
            rw [tk, List.filter_append, List.map_append]
            have e1 : ([e].filter keep).map f = [] := by
              rw [List.filter_cons_of_neg ck]
              rfl
            rw [e1, List.append_nil]
            exact t.mono (ex_hide (ex3.trans ex4))
      · have ei : xs.take i = xs := List.take_of_length_le (by omega)
        rw [ei] at t
        refine .inl ⟨(it H2 (D :: o) G2 W2 i).2 (by rw [List.length_map]; omega), q _ H2 (e1.trans ex2) (ow_mono W1 ex2) (.lst (by rw [hide_out nDo]; exact hD) (t.mono fun a x z => ?_))⟩
        obtain ⟨c2, z⟩ := hide_some z
        rw [hide_out (fun m => c2 (List.mem_cons_of_mem _ m))]
        exact z
/-- without a test -/
theorem eb_yes : EvB K o tYes ds true := fun σ H E W Q q => q H (Same.refl H) W
theorem ev_lcm {wi : TI} {g : TG} {vs : List Nat} {α : Type} (c : α → PyData) {xs : List α} (f : α → PyData) (ds' : α → List (Option PyData)) (hi : EvI K o wi ds (xs.map c)) (hl : xs.length ≤ 1000000) (hw : GtW g vs)
    (hg : ∀ e ∈ xs, GtD K g (wipeD ds vs) (c e) (ds' e)) (he : ∀ e ∈ xs, ∀ o, EvD K o te (ds' e) (f e)) :
    EvD K o (tLc wi g tYes te vs) ds (.list (xs.map f)) := by
  have z := ev_lc (tt := tYes) c (fun _ => true) f ds' hi hl hw hg (fun e _ o => eb_yes) (fun e hm _ o => he e hm o)
  rw [List.filter_eq_self.mpr (fun _ _ => rfl)] at z
  exact z
end
end Ph
namespace Ph
open PySem PySem.Spec PyProof.Rows L2
section
variable {K : PySem.W.Frag} {o : List Addr} {ds ds1 ds2 : List (Option PyData)} {ta tb te : TE} {d e : PyData}
def rLen (K : PySem.W.Frag) : List V → Hp → VK → Prop := fun xs H Q => ∃ p ys, xs = [.ref p] ∧ (SqL K H p ys ∨ SqT K H p ys) ∧ Q (.int ys.length) H
theorem cb_lenT {es : List PyData} : CbD K o (rLen K) [.tuple es] (.int es.length) := fun xs H W h Q q => by
  cases h with
  | cons h t =>
    cases t
    obtain ⟨a, ys, rfl, hq, t⟩ := dd_tup h
    refine ⟨a, ys, rfl, .inr (ex_sqT hide_ex hq), q _ H (Same.refl H) W ?_⟩
    rw [t.length]
    exact .int _
theorem cb_lenL {es : List PyData} : CbD K o (rLen K) [.list es] (.int es.length) := fun xs H W h Q q => by
  cases h with
  | cons h t =>
    cases t
    obtain ⟨a, ys, rfl, hq, t⟩ := dd_lst h
    refine ⟨a, ys, rfl, .inl (SqL.of (hide_some hq).2), q _ H (Same.refl H) W ?_⟩
    rw [t.length]
    exact .int _
def rTupOf (K : PySem.W.Frag) : List V → Hp → VK → Prop := fun xs H Q => ∃ p ys, xs = [.ref p] ∧ ((SqL K H p ys ∧ ∀ l, H l = none → Q (.ref l) (upd H l (.tup ys))) ∨ (SqT K H p ys ∧ Q (.ref p) H))
theorem cb_tupL {es : List PyData} : CbD K o (rTupOf K) [.list es] (.tuple es) := fun xs H W h Q q => by
  cases h with
  | cons h t =>
    cases t
    obtain ⟨a, ys, rfl, hq, t⟩ := dd_lst h
    exact ⟨a, ys, rfl, .inl ⟨SqL.of (hide_some hq).2, fun l hl => q _ _ (ex_new hl) (ow_mono W (ex_new hl)) (.tup (SqT.of (hide_new W hl)) (t.mono (ex_hide (ex_new hl))))⟩⟩
theorem cb_tupT {es : List PyData} : CbD K o (rTupOf K) [.tuple es] (.tuple es) := fun xs H W h Q q => by
  cases h with
  | cons h t =>
    cases t
    obtain ⟨a, ys, rfl, hq, t⟩ := dd_tup h
    exact ⟨a, ys, rfl, .inr ⟨ex_sqT hide_ex hq, q _ H (Same.refl H) W (.tup hq t)⟩⟩
def rLstOf (K : PySem.W.Frag) : List V → Hp → VK → Prop := fun xs H Q => ∃ p ys, xs = [.ref p] ∧ (SqL K H p ys ∨ SqT K H p ys) ∧ ∀ l, H l = none → Q (.ref l) (upd H l (.lst ys))
theorem cb_lstL {es : List PyData} : CbD K o (rLstOf K) [.list es] (.list es) := fun xs H W h Q q => by
  cases h with
  | cons h t =>
    cases t
    obtain ⟨a, ys, rfl, hq, t⟩ := dd_lst h
    exact ⟨a, ys, rfl, .inl (SqL.of (hide_some hq).2), fun l hl => q _ _ (ex_new hl) (ow_mono W (ex_new hl)) (.lst (hide_new W hl) (t.mono (ex_hide (ex_new hl))))⟩
theorem cb_lstT {es : List PyData} : CbD K o (rLstOf K) [.tuple es] (.list es) := fun xs H W h Q q => by
  cases h with
  | cons h t =>
    cases t
    obtain ⟨a, ys, rfl, hq, t⟩ := dd_tup h
    exact ⟨a, ys, rfl, .inr (ex_sqT hide_ex hq), fun l hl => q _ _ (ex_new hl) (ow_mono W (ex_new hl)) (.lst (hide_new W hl) (t.mono (ex_hide (ex_new hl))))⟩
theorem cb_all {bs : List Bool} : CbD K o (rAll K) [.list (bs.map PyData.bool)] (.bool (bs.all id)) := fun xs H W h Q q => by
  cases h with
  | cons h t =>
    cases t
    obtain ⟨a, ys, rfl, hq, t⟩ := dd_lst h
    rw [dds_bools t] at hq
    exact ⟨a, bs, rfl, SqL.of (hide_some hq).2, q _ H (Same.refl H) W (.bl _)⟩
def tyN : PyData → String
  | .none => "NoneType"
  | .bool _ => "bool"
  | .int _ => "int"
  | .str _ => "str"
  | .list _ => "list"
  | .tuple _ => "tuple"
  | .dict _ => "dict"
theorem ty_of {H : Hp} {v : V} (h : DD K H v d) : TyX K H v (.type (tyN d)) := by
  cases h with
  | non => exact .base .non
  | bl b => exact .base (.bl b)
  | int i => exact .base (.int i)
  | str x => exact .base (.str x)
  | lst h t => exact .base (.lst h)
  | dct h t => exact .base (.dK h)
  | tup h t =>
    rcases h with (h | ⟨ob, h⟩) | ⟨ob, its, n, hk, hc, _⟩
    · exact .base (.tup h)
    · exact .fTuple h
    · exact .kTuple hk hc
theorem ty_ex {H H' : Hp} {v : V} {n : String} (h : DD K H v d) (e : Ex H H') : TyX K H' v (.type (tyN d)) := ty_of (h.mono e)
theorem ev_isi {T : String} {b : Bool} (h : EvD K o ta ds d) (hb : kitB (tyN d) T = some b) : EvD K o (tCB (rIsi K) (tCons ta (tCons (tC (.ty T)) tNil))) ds (.bool b) := fun σ H E W Q q =>
  h σ H E W _ fun v H1 e1 W1 x => ⟨v, .ty T, _, _, b, rfl, .ty T, ty_ex x hide_ex (n := T), kit_ty hb, q _ H1 e1 W1 (.bl b)⟩
theorem ev_isiT {A B : String} {b1 b2 : Bool} (h : EvD K o ta ds d) (h1 : kitB (tyN d) A = some b1) (h2 : kitB (tyN d) B = some b2) :
    EvD K o (tCB (rIsiT K) (tCons ta (tCons (tTup (tCons (tC (.ty A)) (tCons (tC (.ty B)) tNil))) tNil))) ds (.bool (b1 || b2)) := fun σ H E W Q q =>
  h σ H E W _ fun v H1 e1 W1 x => ⟨by show 2 ≤ sizeLine; decide, fun p hp => by
    refine ⟨v, p, _, _, _, b1 || b2, rfl, upd_same, .cons (.ty A) (.cons (.ty B) .nil), ty_ex x (hide_ex.trans (ex_new hp)) (n := A), ?_, q _ _ (e1.trans (ex_new hp)) (ow_mono W1 (ex_new hp)) (.bl _)⟩
    refine kitAny_cons (kit_ty h1) (fun e => ?_) (fun e => by rw [e]; rfl)
    rw [e]
    refine kitAny_cons (kit_ty h2) (fun e => ?_) (fun e => by rw [e]; rfl)
    rw [e]
    exact kitAny_nil⟩
theorem ev_isN (h : EvD K o ta ds d) : EvD K o (tIsN ta) ds (.bool (match d with | .none => true | _ => false)) := fun σ H E W Q q =>
  h σ H E W _ fun v H1 e1 W1 x => by
    refine q _ H1 e1 W1 ?_
    cases x with
    | non => exact .bl _
    | bl b => exact .bl _
    | int i => exact .bl _
    | str i => exact .bl _
    | lst _ _ => exact .bl _
    | tup _ _ => exact .bl _
    | dct _ _ => exact .bl _
def scalD : PyData → Bool
  | .none => true
  | .bool _ => true
  | .int _ => true
  | .str _ => true
  | _ => false
def SvN (K : PySem.W.Frag) (o : List Addr) (ts : TS) (ds ds' : List (Option PyData)) : Prop :=
  ∀ (D : Ends) σ H, En K (hide H o) σ ds → Owned H o → (∀ σ' H', Ex H H' → Owned H' o → En K (hide H' o) σ' ds' → D.nx σ' H') → ts D σ H
def SvR (K : PySem.W.Frag) (o : List Addr) (ts : TS) (ds : List (Option PyData)) (d : PyData) : Prop :=
  ∀ (D : Ends) σ H, En K (hide H o) σ ds → Owned H o → (∀ v H', Ex H H' → Owned H' o → DD K (hide H' o) v d → D.rt v H') → ts D σ H
theorem sn_seq {t u : TS} (h : SvN K o t ds ds1) (h2 : SvN K o u ds1 ds2) : SvN K o (tSeq t u) ds ds2 := fun D σ H E W q =>
  h _ σ H E W fun σ1 H1 e1 W1 E1 => h2 D σ1 H1 E1 W1 fun σ2 H2 e2 W2 E2 => q σ2 H2 (e1.trans e2) W2 E2
theorem sr_seq {t u : TS} (h : SvN K o t ds ds1) (h2 : SvR K o u ds1 d) : SvR K o (tSeq t u) ds d := fun D σ H E W q =>
  h _ σ H E W fun σ1 H1 e1 W1 E1 => h2 D σ1 H1 E1 W1 fun v H2 e2 W2 E2 => q v H2 (e1.trans e2) W2 E2
theorem sr_now {t u : TS} (h : SvR K o t ds d) : SvR K o (tSeq t u) ds d := fun D σ H E W q => h _ σ H E W q
theorem sn_nil : SvN K o tNext ds ds := fun D σ H E W q => q σ H (Same.refl H) W E
theorem sn_asg {g : TG} (h : EvD K o te ds e) (hg : GtD K g ds e ds1) : SvN K o (tAsg te g) ds ds1 := fun D σ H E W q =>
  h σ H E W _ fun v H1 e1 W1 x => hg v σ H1 o x (E.mono (ex_hide e1)) _ fun σ' E' => q σ' H1 e1 W1 E'
theorem sr_ret (h : EvD K o te ds d) : SvR K o (tRet te) ds d := fun D σ H E W q => h σ H E W _ q
theorem sn_if {c : TT} {t u : TS} {b : Bool} (h : EvB K o c ds b) (h1 : b = true → SvN K o t ds ds1) (h2 : b = false → SvN K o u ds ds1) : SvN K o (tIfS c t u) ds ds1 := fun D σ H E W q =>
  h σ H E W _ fun H1 e1 W1 => by
    cases b with
    | true =>
      refine iteT ?_
      exact h1 rfl D σ H1 (E.mono (ex_hide e1)) W1 fun σ' H' e W' E' => q σ' H' (e1.trans e) W' E'
    | false =>
      refine iteF ?_
      exact h2 rfl D σ H1 (E.mono (ex_hide e1)) W1 fun σ' H' e W' E' => q σ' H' (e1.trans e) W' E'
theorem sr_if {c : TT} {t u : TS} {b : Bool} (h : EvB K o c ds b) (h1 : b = true → SvR K o t ds d) (h2 : b = false → SvR K o u ds d) : SvR K o (tIfS c t u) ds d := fun D σ H E W q =>
  h σ H E W _ fun H1 e1 W1 => by
    cases b with
    | true =>
      refine iteT ?_
      exact h1 rfl D σ H1 (E.mono (ex_hide e1)) W1 fun v H' e W' E' => q v H' (e1.trans e) W' E'
    | false =>
      refine iteF ?_
      exact h2 rfl D σ H1 (E.mono (ex_hide e1)) W1 fun v H' e W' E' => q v H' (e1.trans e) W' E'
/-- if c: return ..; then the rest -/
theorem sr_ifRet {c : TT} {t u : TS} {b : Bool} (h : EvB K o c ds b) (h1 : b = true → SvR K o t ds d) (h2 : b = false → SvR K o u ds d) : SvR K o (tSeq (tIfS c t tNext) u) ds d := fun D σ H E W q =>
  h σ H E W _ fun H1 e1 W1 => by
    cases b with
    | true =>
      refine iteT ?_
      exact h1 rfl _ σ H1 (E.mono (ex_hide e1)) W1 fun v H' e W' E' => q v H' (e1.trans e) W' E'
    | false =>
      refine iteF ?_
      exact h2 rfl D σ H1 (E.mono (ex_hide e1)) W1 fun v H' e W' E' => q v H' (e1.trans e) W' E'
/-- a for over data: Pv by the heap at its begin, the turn, the slots and the heap -/
theorem for_dataG {wi : TI} {g : TG} {tb : TS} {es : List PyData} {D : Ends} {σ : L2.St} {H : Hp} (hi : ∀ R : It → Hp → Prop, (∀ J H2, Ex H H2 → Owned H2 o → ItD K (hide H2 o) J es → R J H2) → wi σ H R) (Pv : Hp → Nat → L2.St → Hp → Prop)
    (h0 : ∀ H1, Ex H H1 → Owned H1 o → Pv H1 0 σ H1) (fr : ∀ H1, Ex H H1 → Owned H1 o → ∀ i σ' H', Pv H1 i σ' H' → ∃ o', Ex (hide H1 o) (hide H' o') ∧ Owned H' o' ∧
      (∀ e, es[i]? = some e → ∀ x H2, Ex H' H2 → DD K (hide H2 o') x e → g x σ' H2 fun σ2 H3 => tb { D with nx := Pv H1 (i + 1), ct := Pv H1 (i + 1), bk := D.nx } σ2 H3) ∧ (i = es.length → D.nx σ' H')) : tFor wi g tb D σ H :=
  hi _ fun J H1 e1 W1 it => by
    refine ⟨fun i m σ' H' => m = es.length - i ∧ i ≤ es.length ∧ Pv H1 i σ' H', ⟨es.length, rfl, Nat.zero_le _, h0 H1 e1 W1⟩, fun i m σ' H' w => ?_⟩
    obtain ⟨rfl, hi, p⟩ := w
    obtain ⟨o', fz, W', turn, done⟩ := fr H1 e1 W1 i σ' H' p
    by_cases c : i < es.length
    · obtain ⟨e, he'⟩ : ∃ e, es[i]? = some e := ⟨_, List.getElem?_eq_getElem c⟩
      obtain ⟨go, yl⟩ := (it H' o' fz W' i).1 e he'
      refine .inr ⟨go, Pv H1 (i + 1), fun σ2 H2 n => ⟨es.length - (i + 1), by omega, rfl, c, n⟩, fun x H2 y => ?_⟩
      obtain ⟨ex2, hx⟩ := yl x H2 y
      exact turn e he' x H2 ex2 hx
    · exact .inl ⟨(it H' o' fz W' i).2 (by omega), done (by omega)⟩
/-- a for over data: Pv by the heap at its begin, the turn, the slots and the heap -/
theorem for_data {wi : TI} {g : TG} {tb : TS} {es : List PyData} {D : Ends} {σ : L2.St} {H : Hp} (hi : EvI K o wi ds es) (E : En K (hide H o) σ ds) (W : Owned H o) (Pv : Hp → Nat → L2.St → Hp → Prop)
    (h0 : ∀ H1, Ex H H1 → Owned H1 o → Pv H1 0 σ H1) (fr : ∀ H1, Ex H H1 → Owned H1 o → ∀ i σ' H', Pv H1 i σ' H' → ∃ o', Ex (hide H1 o) (hide H' o') ∧ Owned H' o' ∧
      (∀ e, es[i]? = some e → ∀ x H2, Ex H' H2 → DD K (hide H2 o') x e → g x σ' H2 fun σ2 H3 => tb { D with nx := Pv H1 (i + 1), ct := Pv H1 (i + 1), bk := D.nx } σ2 H3) ∧ (i = es.length → D.nx σ' H')) : tFor wi g tb D σ H :=
  for_dataG (fun R r => hi σ H E W R r) Pv h0 fr
end
section
variable {P : Program} {w : World} {K : PySem.W.Frag} {mg : Str → Option Value} {base : Heap}
theorem en_start {H : Hp} : ∀ {vs : List V} {as : List PyData} (n : Nat), DDs K H vs as → En K H (vs.map some ++ List.replicate n none) (as.map some ++ List.replicate n none)
  | _, _, 0, .nil => .nil
  | _, _, n + 1, .nil => .no (en_start (vs := []) (as := []) n .nil)
  | _, _, n, .cons h t => .yes h (en_start n t)
theorem hide_nil {H : Hp} : hide H [] = H := by
  funext a
  exact hide_out (by simp)
/-- the slots' data at a def's entry -/
def startD (N : List Str) (as : List PyData) : List (Option PyData) := as.map some ++ List.replicate (N.length - as.length) none
theorem fn_pure {x qual : Str} {st : Stmt} {f : Addr} {fd : FuncData} {N ps : List Str} {k n : Nat} {R : List PyData → PyData → Prop} (F : Fun K x qual st f fd) (S : FnScope N ps (defScope st)) (hn : ps.length = n)
    (hbody : ∀ (cdv : Value) (A : Around) (outer : List Env) (s : Shared) (H : Hp) (E : XK), Room k (A.deeper (envOfC qual (defScope st) s.heap.objs.size f cdv)) →
      ∃ t, PSs (cxOf CX0 P w K mg base N qual (defScope st) f cdv A outer s H E).nox (defBody st) t ∧ ∀ as d, as.length = n → R as d → SvR K [] t (startD N as) d) : FnOk P w K mg base CX0 (k + 1) f fd ps (spD K n R) := by
  refine F.ok S (fun vs H Q E h => ?_) (fun cdv A outer s H vs Q E hr h => ?_)
  · obtain ⟨as, d, h, hl, _⟩ := h
    rw [h.length, hl, hn]
  · obtain ⟨as, d, h, hl, hR, q⟩ := h
    obtain ⟨t, hp, hv⟩ := hbody cdv A outer s H E hr
    refine ⟨t, hp, ?_⟩
    have z : start N vs = vs.map some ++ List.replicate (N.length - vs.length) none := rfl
    rw [z, h.length]
    refine hv as d hl hR _ _ H (by rw [hide_nil]; exact en_start _ h) (fun a ha => by cases ha) fun v H' e W x => ?_
    rw [hide_nil] at x
    exact q v H' e x
end
end Ph
namespace Ph
open PySem PySem.Spec PyProof.Rows L2
/-- a def by its name: where it stands, its promise -/
def Cal (P : Program) (w : World) (K : PySem.W.Frag) (mg : Str → Option Value) (base : Heap) (x : Str) (k : Nat) (ps : List Str) (sp : Sp) : Prop :=
  ∃ (f : Addr) (fd : FuncData), mg x = some (.ref f) ∧ PySem.W.keepIn K (.ref f) = true ∧ Binds K fd ps [] ∧ FnOk P w K mg base CX0 k f fd ps sp
theorem pe_cal {X : Cx} {x : Str} {k : Nat} {ps : List Str} {sp : Sp} {p pos : Pos} {e : Expr} {es : List Expr} {t : TA} (C : Cal X.prog X.w X.K X.mg X.base x k ps sp) (hr : Room k X.A) (hg : Gl X x) (ha : PA X (e :: es) t)
    (hdb : (x == ("__debug__" : Str)) = false := by decide) (he : starEach (e :: es) X.env = (false, eval e X.env) :: starEach es X.env := by rfl) (hpl : (backTo pos (starEach es X.env)).any (·.1) = false := by rfl) :
    PE X (.Call (.Name x p) (e :: es) [] pos) (tCall (spHide sp) [] E0 t) := by
  obtain ⟨f, fd, hm, hk, hb, F⟩ := C
  exact pe_call (fn_hide F) hr hg hm hk hb .nil pass0 ha hdb he hpl
theorem pe_calU {X : Cx} {x : Str} {k : Nat} {ps : List Str} {sp : Sp} {p pos : Pos} {e : Expr} {es : List Expr} {t : TA} (C : Cal X.prog X.w X.K X.mg X.base x k ps sp) (hr : Room k X.A) (hg : Gl X x) (ha : PA X (e :: es) t)
    (hdb : (x == ("__debug__" : Str)) = false := by decide) (he : starEach (e :: es) X.env = (false, eval e X.env) :: starEach es X.env := by rfl) (hpl : (backTo pos (starEach es X.env)).any (·.1) = false := by rfl) :
    PE X (.Call (.Name x p) (e :: es) [] pos) (tCall sp [] E0 t) := by
  obtain ⟨f, fd, hm, hk, hb, F⟩ := C
  exact pe_call F hr hg hm hk hb .nil pass0 ha hdb he hpl
/-- the built-in names that stay the built-in ones -/
structure Blt (mg : Str → Option Value) : Prop where
  isinstance : mg "isinstance" = none
  len : mg "len" = none
  tuple : mg "tuple" = none
  list : mg "list" = none
  int : mg "int" = none
  bool : mg "bool" = none
  str : mg "str" = none
  all : mg "all" = none
  range : mg "range" = none
  enumerate : mg "enumerate" = none
  zip : mg "zip" = none
  max : mg "max" = none
  abs : mg "abs" = none
section
variable {K : PySem.W.Frag} {o : List Addr} {ds : List (Option PyData)} {ta tb te : TE} {d e : PyData}
/-- == of a thing with itself: None, bool, int, text -/
theorem od_eqS {a : PyData} (h : scalD a = true) : OpD K o rEq a a (.bool true) := fun x y H W hx hy Q q => by
  have e : x = y := by
    cases hx <;> cases hy <;> first | rfl | cases h
  subst e
  have s : scal x x = true := by cases hx <;> first | rfl | cases h
  refine ⟨s, q _ H (Same.refl H) W ?_⟩
  rw [decide_eq_true rfl]
  exact .bl _
theorem ev_to (h : EvD K o te ds d) (e' : d = e) : EvD K o te ds e := e' ▸ h
end
end Ph
namespace Ph
open PySem PySem.Spec PyProof.Rows L2
def isInt : PyData → Bool
  | .int _ => true
  | .bool _ => true
  | _ => false
def isBool : PyData → Bool
  | .bool _ => true
  | _ => false
def isList : PyData → Bool
  | .list _ => true
  | _ => false
def isTuple : PyData → Bool
  | .tuple _ => true
  | _ => false
def isStr : PyData → Bool
  | .str _ => true
  | _ => false
def isNone : PyData → Bool
  | .none => true
  | _ => false
theorem kInt : ∀ d : PyData, kitB (tyN d) "int" = some (isInt d) := fun d => by
  cases d <;> (first | (show kitB "NoneType" "int" = some false; decide +kernel) | (show kitB "bool" "int" = some true; decide +kernel) | (show kitB "int" "int" = some true; decide +kernel) | (show kitB "str" "int" = some false; decide +kernel) | (show kitB "list" "int" = some false; decide +kernel) | (show kitB "tuple" "int" = some false; decide +kernel) | (show kitB "dict" "int" = some false; decide +kernel))
theorem kBool : ∀ d : PyData, kitB (tyN d) "bool" = some (isBool d) := fun d => by
  cases d <;> (first | (show kitB "NoneType" "bool" = some false; decide +kernel) | (show kitB "bool" "bool" = some true; decide +kernel) | (show kitB "int" "bool" = some false; decide +kernel) | (show kitB "str" "bool" = some false; decide +kernel) | (show kitB "list" "bool" = some false; decide +kernel) | (show kitB "tuple" "bool" = some false; decide +kernel) | (show kitB "dict" "bool" = some false; decide +kernel))
theorem kList : ∀ d : PyData, kitB (tyN d) "list" = some (isList d) := fun d => by
  cases d <;> (first | (show kitB "NoneType" "list" = some false; decide +kernel) | (show kitB "bool" "list" = some false; decide +kernel) | (show kitB "int" "list" = some false; decide +kernel) | (show kitB "str" "list" = some false; decide +kernel) | (show kitB "list" "list" = some true; decide +kernel) | (show kitB "tuple" "list" = some false; decide +kernel) | (show kitB "dict" "list" = some false; decide +kernel))
theorem kTuple : ∀ d : PyData, kitB (tyN d) "tuple" = some (isTuple d) := fun d => by
  cases d <;> (first | (show kitB "NoneType" "tuple" = some false; decide +kernel) | (show kitB "bool" "tuple" = some false; decide +kernel) | (show kitB "int" "tuple" = some false; decide +kernel) | (show kitB "str" "tuple" = some false; decide +kernel) | (show kitB "list" "tuple" = some false; decide +kernel) | (show kitB "tuple" "tuple" = some true; decide +kernel) | (show kitB "dict" "tuple" = some false; decide +kernel))
theorem kStr : ∀ d : PyData, kitB (tyN d) "str" = some (isStr d) := fun d => by
  cases d <;> (first | (show kitB "NoneType" "str" = some false; decide +kernel) | (show kitB "bool" "str" = some false; decide +kernel) | (show kitB "int" "str" = some false; decide +kernel) | (show kitB "str" "str" = some true; decide +kernel) | (show kitB "list" "str" = some false; decide +kernel) | (show kitB "tuple" "str" = some false; decide +kernel) | (show kitB "dict" "str" = some false; decide +kernel))
section
variable {K : PySem.W.Frag} {o : List Addr} {ds : List (Option PyData)} {ta tb te : TE} {d e : PyData}
theorem ev_is_int (h : EvD K o ta ds d) : EvD K o (tCB (rIsi K) (tCons ta (tCons (tC (.ty "int")) tNil))) ds (.bool (isInt d)) := ev_isi h (kInt d)
theorem ev_is_bool (h : EvD K o ta ds d) : EvD K o (tCB (rIsi K) (tCons ta (tCons (tC (.ty "bool")) tNil))) ds (.bool (isBool d)) := ev_isi h (kBool d)
theorem ev_is_list (h : EvD K o ta ds d) : EvD K o (tCB (rIsi K) (tCons ta (tCons (tC (.ty "list")) tNil))) ds (.bool (isList d)) := ev_isi h (kList d)
theorem ev_is_tuple (h : EvD K o ta ds d) : EvD K o (tCB (rIsi K) (tCons ta (tCons (tC (.ty "tuple")) tNil))) ds (.bool (isTuple d)) := ev_isi h (kTuple d)
theorem ev_is_list_tuple (h : EvD K o ta ds d) : EvD K o (tCB (rIsiT K) (tCons ta (tCons (tTup (tCons (tC (.ty "list")) (tCons (tC (.ty "tuple")) tNil))) tNil))) ds (.bool (isList d || isTuple d)) := ev_isiT h (kList d) (kTuple d)
theorem ev_is_bool_str (h : EvD K o ta ds d) : EvD K o (tCB (rIsiT K) (tCons ta (tCons (tTup (tCons (tC (.ty "bool")) (tCons (tC (.ty "str")) tNil))) tNil))) ds (.bool (isBool d || isStr d)) := ev_isiT h (kBool d) (kStr d)
theorem ev_isNone (h : EvD K o ta ds d) : EvD K o (tIsN ta) ds (.bool (isNone d)) := by
  have z := ev_isN h
  cases d <;> exact z
end
end Ph
namespace Ph
open PySem PySem.Spec PyProof.Rows L2
theorem sr_to {K : PySem.W.Frag} {o : List Addr} {ds : List (Option PyData)} {ts : TS} {d e : PyData} (h : SvR K o ts ds d) (q : d = e) : SvR K o ts ds e := q ▸ h
end Ph
namespace Ph
open PySem PySem.Spec PyProof.Rows L2
section
variable {K : PySem.W.Frag} {o : List Addr} {ds : List (Option PyData)} {ta tb te : TE} {d e : PyData}
/-- all([..]) -/
theorem ev_allc {wi : TI} {g : TG} {vs : List Nat} {α : Type} (c : α → PyData) {xs : List α} (f : α → Bool) (ds' : α → List (Option PyData)) (hi : EvI K o wi ds (xs.map c)) (hl : xs.length ≤ 1000000) (hw : GtW g vs)
    (hg : ∀ e ∈ xs, GtD K g (wipeD ds vs) (c e) (ds' e)) (he : ∀ e ∈ xs, ∀ o, EvD K o te (ds' e) (.bool (f e))) : EvD K o (tCB (rAll K) (tCons (tLc wi g tYes te vs) tNil)) ds (.bool (xs.all f)) := by
  have z := ev_lcm c (fun e => .bool (f e)) ds' hi hl hw hg he
  have e1 : xs.map (fun e => PyData.bool (f e)) = (xs.map f).map PyData.bool := by rw [List.map_map]; rfl
  rw [e1] at z
  have e2 : xs.all f = (xs.map f).all id := by rw [List.all_map]; rfl
  rw [e2]
  exact ev_cb (ea_cons z ea_nil) cb_all
end
abbrev nums (ns : List Int) : PyData := .tuple (ns.map PyData.int)
end Ph
namespace Ph
open PySem PySem.Spec PyProof.Rows L2
theorem zipD_self : ∀ es : List PyData, zipD es es = es.map fun e => .tuple [e, e]
  | [] => rfl
  | e :: es => by
    have ih := zipD_self es
    unfold zipD at ih ⊢
    rw [List.zip_cons_cons, List.map_cons, List.map_cons, ih]
/-- plain data of bounded depth -/
def okD : Nat → PyData → Prop
  | 0, d => scalD d = true
  | n + 1, .list es => es.length ≤ 1000000 ∧ ∀ e ∈ es, okD n e
  | n + 1, .tuple es => es.length ≤ 1000000 ∧ ∀ e ∈ es, okD n e
  | _ + 1, d => scalD d = true
def R_same : Nat → List PyData → PyData → Prop
  | 0, _, _ => False
  | n + 1, as, d => ∃ a, as = [a, a] ∧ okD n a ∧ d = .bool true
theorem okD_scal {d : PyData} : ∀ {n : Nat}, scalD d = true → okD n d
  | 0, h => h
  | n + 1, h => by cases d <;> first | exact h | cases h
end Ph
namespace Ph
open PySem PySem.Spec PyProof.Rows L2
end Ph
namespace Ph
open PySem PySem.Spec PyProof.Rows L2
end Ph
namespace Ph
open PySem PySem.Spec PyProof.Rows L2
section
variable {K : PySem.W.Frag} {o : List Addr} {ds : List (Option PyData)} {ta tb te : TE} {d e : PyData}
def rInt : List V → Hp → VK → Prop := fun xs H Q => (∃ i, xs = [.int i] ∧ Q (.int i) H) ∨ ∃ k, xs = [.bl k] ∧ Q (.int (if k then 1 else 0)) H
theorem cb_int {i : Int} : CbD K o rInt [.int i] (.int i) := fun xs H W h Q q => by
  cases h with
  | cons h t =>
    cases t
    rw [dd_int h]
    exact .inl ⟨i, rfl, q _ H (Same.refl H) W (.int _)⟩
theorem cb_intB {b : Bool} : CbD K o rInt [.bool b] (.int (if b then 1 else 0)) := fun xs H W h Q q => by
  cases h with
  | cons h t =>
    cases t
    rw [dd_bool h]
    exact .inr ⟨b, rfl, q _ H (Same.refl H) W (.int _)⟩
def rAbs : List V → Hp → VK → Prop := fun xs H Q => ∃ i, xs = [.int i] ∧ Q (.int (if i < 0 then -i else i)) H
theorem cb_abs {i : Int} : CbD K o rAbs [.int i] (.int (if i < 0 then -i else i)) := fun xs H W h Q q => by
  cases h with
  | cons h t =>
    cases t
    rw [dd_int h]
    exact ⟨i, rfl, q _ H (Same.refl H) W (.int _)⟩
def Urn (H : Hp) (u : Addr) (n : Nat) : Prop := ∃ b c m : Int, H u = some (.lst [.int b, .int c, .int m]) ∧ 0 ≤ b ∧ 0 ≤ c ∧ c < 2 ^ 63 ∧ 0 ≤ m ∧ m ≤ n
theorem Urn.mono {H : Hp} {u : Addr} {n k : Nat} (h : Urn H u n) (l : n ≤ k) : Urn H u k := by
  obtain ⟨b, c, m, e, h1, h2, h3, h4, h5⟩ := h
  exact ⟨b, c, m, e, h1, h2, h3, h4, by omega⟩
theorem Urn.keep {H H' : Hp} {u : Addr} {n : Nat} (h : Urn H u n) (e : H' u = H u) : Urn H' u n := by
  obtain ⟨b, c, m, h0, r⟩ := h
  exact ⟨b, c, m, e.trans h0, r⟩
/-- all but u stands -/
def But (u : Addr) (H H' : Hp) : Prop := ∀ a x, a ≠ u → H a = some x → H' a = some x
/-- what a draw does: from n draws to one more, a number below low -/
def spTake : Sp := fun vs H Q _ => ∃ (u : Addr) (low : Int) (n : Nat), vs = [.ref u, .int low] ∧ Urn H u n ∧ n ≤ 100000 ∧ 1 ≤ low ∧ low ≤ 1000000 ∧
  ∀ (r : Int) (H' : Hp), 0 ≤ r → r < low → But u H H' → Urn H' u (n + 1) → Q (.int r) H'
theorem dd_flat {G G' : Hp} {v : V} {d : PyData} (h : DD K G v d) (s : scalD d = true) : DD K G' v d := by
  cases h with
  | non => exact .non
  | bl b => exact .bl b
  | int i => exact .int i
  | str x => exact .str x
  | lst _ _ => cases s
  | tup _ _ => cases s
  | dct _ _ => cases s
end
end Ph
namespace Ph
open PySem PySem.Spec PyProof.Rows L2
section
variable {K : PySem.W.Frag} {o : List Addr} {ds : List (Option PyData)} {ta tb te ti : TE} {d e : PyData}
/-- x[i] = e, x the list at u -/
theorem st_item {D : Ends} {σ : L2.St} {H : Hp} {iu j : Nat} {u : Addr} {xs : List V} {i : Int} (hu : σ[iu]? = some (some (.ref u))) (he : EvD K o te ds e) (hi : EvD K o ti ds (.int i)) (E : En K (hide H o) σ ds) (W : Owned H o)
    (hx : H u = some (.lst xs)) (hj : ixN xs.length i = some j) (k : ∀ v H1, Ex H H1 → Owned H1 o → DD K (hide H1 o) v e → D.nx σ (upd H1 u (.lst (xs.set j v)))) : tAsg te (gSub (tVar iu) ti rSetL) D σ H :=
  he σ H E W _ fun v H1 e1 W1 x => ⟨.ref u, hu, hi σ H1 (E.mono (ex_hide e1)) W1 _ fun z H2 e2 W2 y => ⟨u, xs, i, j, rfl, dd_int y, e2 _ _ (e1 _ _ hx), hj, k v H2 (e1.trans e2) W2 (x.mono (ex_hide e2))⟩⟩
end
theorem own0 {H : Hp} : Owned H [] := fun a h => by cases h
theorem en0 {K : PySem.W.Frag} {H : Hp} {σ : L2.St} {ds : List (Option PyData)} (h : En K H σ ds) : En K (hide H []) σ ds := by
  rw [hide_nil]
  exact h
end Ph
namespace Ph
open PySem PySem.Spec PyProof.Rows L2
section
variable {K : PySem.W.Frag} {o : List Addr} {i j : Int}
theorem od_mod (h : 0 < j) : OpD K o (rI (fun _ j => 0 < j) fun i j => .int (i % j)) (.int i) (.int j) (.int (i % j)) := od_I h fun _ => .int _
theorem od_mul (h : CMul i j) : OpD K o (rI CMul fun i j => .int (i * j)) (.int i) (.int j) (.int (i * j)) := od_I h fun _ => .int _
theorem od_div (h : CDiv i j) : OpD K o (rI CDiv fun i j => .int (i / j)) (.int i) (.int j) (.int (i / j)) := od_I h fun _ => .int _
theorem od_divW (h : CDivW i j) : OpD K o (rI CDivW fun i j => .int (i / j)) (.int i) (.int j) (.int (i / j)) := od_I h fun _ => .int _
theorem od_pow (h : CPow i j) : OpD K o (rI CPow fun i j => .int (i ^ j.toNat)) (.int i) (.int j) (.int (i ^ j.toNat)) := od_I h fun _ => .int _
end
end Ph
namespace Ph
open PySem PySem.Spec PyProof.Rows L2
section
variable {K : PySem.W.Frag} {o : List Addr} {ds : List (Option PyData)} {te : TE} {d e : PyData} {D : Ends} {σ : L2.St} {H : Hp}
theorem ss_set {i : Nat} {u : TS} (E : En K (hide H o) σ ds) (W : Owned H o) (h : EvD K o te ds e) (k : ∀ v H2, Ex H H2 → Owned H2 o → DD K (hide H2 o) v e → u D (σ.set i (some v)) H2) : tSeq (tAsg te (gName i)) u D σ H := h σ H E W _ k
theorem ss_if {c : TT} {t t2 u : TS} {b : Bool} (E : En K (hide H o) σ ds) (W : Owned H o) (h : EvB K o c ds b) (k : ∀ H2, Ex H H2 → Owned H2 o → if b = true then t { D with nx := u D } σ H2 else t2 { D with nx := u D } σ H2) : tSeq (tIfS c t t2) u D σ H := h σ H E W _ k
theorem ss_item {u : TS} {ti : TE} {iu j : Nat} {p : Addr} {xs : List V} {i : Int} (E : En K (hide H o) σ ds) (W : Owned H o) (he : EvD K o te ds e) (hi : EvD K o ti ds (.int i)) (hu : σ[iu]? = some (some (.ref p)))
    (hx : H p = some (.lst xs)) (hj : ixN xs.length i = some j) (k : ∀ v H1, Ex H H1 → Owned H1 o → DD K (hide H1 o) v e → u D σ (upd H1 p (.lst (xs.set j v)))) : tSeq (tAsg te (gSub (tVar iu) ti rSetL)) u D σ H :=
  st_item (D := { D with nx := u D }) hu he hi E W hx hj k
theorem st_ret (E : En K (hide H o) σ ds) (W : Owned H o) (h : EvD K o te ds e) (k : ∀ v H2, Ex H H2 → Owned H2 o → DD K (hide H2 o) v e → D.rt v H2) : tRet te D σ H := h σ H E W _ k
end
end Ph
namespace Ph
open PySem PySem.Spec PyProof.Rows L2
/-- a def that draws: pre of its data, R what may come, k draws at most; the source is its first argument -/
def spU (K : PySem.W.Frag) (m k : Nat) (pre : List PyData → Prop) (R : List PyData → PyData → Prop) : Sp := fun vs H Q _ => ∃ (u : Addr) (n : Nat) (us : List V) (as : List PyData),
  vs = .ref u :: us ∧ Urn H u n ∧ n + k ≤ 100000 ∧ DDs K (hide H [u]) us as ∧ as.length = m ∧ pre as ∧
    ∀ v d H', R as d → Ex (hide H [u]) (hide H' [u]) → Urn H' u (n + k) → DD K (hide H' [u]) v d → Q v H'
theorem urn_own {H : Hp} {u : Addr} {n : Nat} (h : Urn H u n) : Owned H [u] := fun a ha => by
  have e : a = u := by simpa using ha
  obtain ⟨b, c, m, h0, _⟩ := h
  exact ⟨.lst [.int b, .int c, .int m], by rw [e]; exact h0, True.intro⟩
/-- behind some draws, the objects put aside being as they were but for the source -/
structure Dr (H H2 : Hp) (o : List Addr) (u : Addr) (n2 : Nat) : Prop where
  ex : Ex (hide H o) (hide H2 o)
  ow : Owned H2 o
  same : ∀ a ∈ o, a ≠ u → H2 a = H a
  urn : Urn H2 u n2
theorem Dr.trans {H H1 H2 : Hp} {o : List Addr} {u : Addr} {n1 n2 : Nat} (a : Dr H H1 o u n1) (b : Dr H1 H2 o u n2) : Dr H H2 o u n2 :=
  ⟨a.ex.trans b.ex, b.ow, fun c m ne => (b.same c m ne).trans (a.same c m ne), b.urn⟩
theorem Dr.up {H H1 : Hp} {o : List Addr} {u : Addr} {n1 n2 : Nat} (a : Dr H H1 o u n1) (l : n1 ≤ n2) : Dr H H1 o u n2 := ⟨a.ex, a.ow, a.same, a.urn.mono l⟩
theorem Dr.of {H H1 : Hp} {o : List Addr} {u : Addr} {n : Nat} (e : Ex H H1) (W : Owned H o) (U : Urn H u n) : Dr H H1 o u n :=
  ⟨ex_hide e, ow_mono W e, fun a m _ => by
    obtain ⟨x, h, _⟩ := W a m
    rw [h, e _ _ h], by
    obtain ⟨b, c, m, h, r⟩ := U
    exact ⟨b, c, m, e _ _ h, r⟩⟩
/-- where the draws stand: the source is put aside, its name is in slot iu -/
structure At (H : Hp) (o : List Addr) (u : Addr) (iu : Nat) (σ : L2.St) (n : Nat) : Prop where
  mem : u ∈ o
  slot : σ[iu]? = some (some (.ref u))
  urn : Urn H u n
def EvU (K : PySem.W.Frag) (o : List Addr) (u : Addr) (iu : Nat) (te : TE) (ds : List (Option PyData)) (k : Nat) (R : PyData → Prop) : Prop :=
  ∀ σ H n, En K (hide H o) σ ds → Owned H o → At H o u iu σ n → n + k ≤ 100000 → ∀ Q : VK, (∀ v d H2, R d → Dr H H2 o u (n + k) → DD K (hide H2 o) v d → Q v H2) → te σ H Q
def EvAU (K : PySem.W.Frag) (o : List Addr) (u : Addr) (iu : Nat) (ta : TA) (ds : List (Option PyData)) (k : Nat) (R : List PyData → Prop) : Prop :=
  ∀ σ H n, En K (hide H o) σ ds → Owned H o → At H o u iu σ n → n + k ≤ 100000 → ∀ Q : List V → Hp → Prop, (∀ vs es H2, R es → Dr H H2 o u (n + k) → DDs K (hide H2 o) vs es → Q vs H2) → ta σ H Q
section
variable {K : PySem.W.Frag} {o : List Addr} {u : Addr} {iu : Nat} {ds : List (Option PyData)} {ta tb te : TE} {d e : PyData} {R P : PyData → Prop} {k j : Nat}
theorem At.next {H H2 : Hp} {σ : L2.St} {n n2 : Nat} (a : At H o u iu σ n) (d : Dr H H2 o u n2) : At H2 o u iu σ n2 := ⟨a.mem, a.slot, d.urn⟩
theorem eu_pure (h : EvD K o te ds d) : EvU K o u iu te ds 0 (fun x => x = d) := fun σ H n E W A hn Q q =>
  h σ H E W Q fun v H2 e2 W2 x => q v d H2 rfl (Dr.of e2 W A.urn) x
theorem eu_imp (h : EvU K o u iu te ds k R) (i : ∀ d, R d → P d) : EvU K o u iu te ds k P := fun σ H n E W A hn Q q => h σ H n E W A hn Q fun v d H2 r D x => q v d H2 (i d r) D x
theorem eu_more (h : EvU K o u iu te ds j R) (l : j ≤ k) : EvU K o u iu te ds k R := fun σ H n E W A hn Q q =>
  h σ H n E W A (by omega) Q fun v d H2 r D x => q v d H2 r (D.up (by omega)) x
theorem eau_nil : EvAU K o u iu tNil ds 0 (fun es => es = []) := fun σ H n E W A hn Q q => q [] [] H rfl (Dr.of (Same.refl H) W A.urn) .nil
theorem eau_cons {t : TA} {S : List PyData → Prop} (h : EvU K o u iu ta ds k R) (h2 : EvAU K o u iu t ds j S) : EvAU K o u iu (tCons ta t) ds (k + j) (fun es => ∃ d r, es = d :: r ∧ R d ∧ S r) := fun σ H n E W A hn Q q =>
  h σ H n E W A (by omega) _ fun v d H1 r D1 x => h2 σ H1 (n + k) (E.mono D1.ex) D1.ow (A.next D1) (by omega) _ fun vs es H2 s D2 xs =>
    q (v :: vs) (d :: es) H2 ⟨d, es, rfl, r, s⟩ (by rw [← Nat.add_assoc]; exact D1.trans D2) (.cons (x.mono D2.ex) xs)
theorem eu_tup {t : TA} {S : List PyData → Prop} (h : EvAU K o u iu t ds k S) (hl : ∀ es, S es → es.length ≤ sizeLine) : EvU K o u iu (tTup t) ds k (fun d => ∃ es, d = .tuple es ∧ S es) := fun σ H n E W A hn Q q =>
  h σ H n E W A hn _ fun vs es H1 s D1 xs => ⟨by rw [xs.length]; exact hl es s, fun p hp =>
    q _ (.tuple es) _ ⟨es, rfl, s⟩ (D1.trans (Dr.of (ex_new hp) D1.ow D1.urn)) (.tup (SqT.of (hide_new D1.ow hp)) (xs.mono (ex_hide (ex_new hp))))⟩
theorem eu_op {r : R2} {R1 R2' : PyData → Prop} {R : PyData → Prop} (h1 : EvU K o u iu ta ds k R1) (h2 : EvU K o u iu tb ds j R2') (hr : ∀ a b, R1 a → R2' b → ∃ d, R d ∧ OpD K o r a b d) : EvU K o u iu (tOp r ta tb) ds (k + j) R := fun σ H n E W A hn Q q =>
  h1 σ H n E W A (by omega) _ fun v a H1 r1 D1 x => h2 σ H1 (n + k) (E.mono D1.ex) D1.ow (A.next D1) (by omega) _ fun w b H2 r2 D2 y => by
    obtain ⟨d, rd, op⟩ := hr a b r1 r2
    exact op v w H2 D2.ow (x.mono D2.ex) y Q fun z H3 e3 W3 c => q z d H3 rd (by rw [← Nat.add_assoc]; exact D1.trans (D2.trans (Dr.of e3 D2.ow D2.urn))) c
theorem eu_cb {r : List V → Hp → VK → Prop} {t : TA} {S : List PyData → Prop} {R : PyData → Prop} (h : EvAU K o u iu t ds k S) (hr : ∀ es, S es → ∃ d, R d ∧ CbD K o r es d) : EvU K o u iu (tCB r t) ds k R := fun σ H n E W A hn Q q =>
  h σ H n E W A hn _ fun vs es H1 s D1 xs => by
    obtain ⟨d, rd, c⟩ := hr es s
    exact c vs H1 D1.ow xs Q fun v H2 e2 W2 y => q v d H2 rd (D1.trans (Dr.of e2 D1.ow D1.urn)) y
def less (o : List Addr) (u : Addr) : List Addr := o.filter fun a => decide (a ≠ u)
theorem mem_less {a : Addr} : a ∈ less o u ↔ a ∈ o ∧ a ≠ u := by
  unfold less
  rw [List.mem_filter, decide_eq_true_eq]
theorem hide_less {H : Hp} (m : u ∈ o) : hide (hide H (less o u)) [u] = hide H o := by
  funext a
  by_cases c : a ∈ o
  · rw [hide_in c]
    by_cases e : a = u
    · exact hide_in (by simp [e])
    · rw [hide_out (by simp [e]), hide_in (mem_less.mpr ⟨c, e⟩)]
  · have c2 : a ∉ less o u := fun z => c (mem_less.mp z).1
    have c3 : a ∉ [u] := fun z => c (by rw [show a = u by simpa using z]; exact m)
    rw [hide_out c, hide_out c3, hide_out c2]
theorem eu_call {m : Nat} {pre : List PyData → Prop} {Rf : List PyData → PyData → Prop} {E : XK} {t : TA} {as : List PyData} (h : EvA K o t ds as) (hm : as.length = m) (hp : pre as) :
    EvU K o u iu (tCall (spHide (spU K m k pre Rf)) [] E (tCons (tVar iu) t)) ds k (Rf as) := fun σ H n En W A hn Q q => by
  refine ⟨.ref u, A.slot, ?_⟩
  refine h σ H En W _ fun vs H1 e1 W1 xs => ?_
  show spHide (spU K m k pre Rf) ((.ref u :: vs) ++ []) H1 Q E
  rw [List.append_nil]
  have D0 := Dr.of e1 W A.urn
  have W2 : Owned H1 (less o u) := fun a ha => W1 a (mem_less.mp ha).1
  have nu : u ∉ less o u := fun z => (mem_less.mp z).2 rfl
  have U2 : Urn (hide H1 (less o u)) u n := D0.urn.keep (hide_out nu)
  refine ⟨less o u, W2, u, n, vs, as, rfl, U2, hn, by rw [hide_less A.mem]; exact xs, hm, hp, fun v d G r ex U3 x g => ?_⟩
  rw [hide_less A.mem] at ex
  -- the heap behind: back H1 (less o u) G
  have eq : hide (back H1 (less o u) G) o = hide G [u] := by
    funext a
    by_cases c : a ∈ o
    · rw [hide_in c]
      by_cases e : a = u
      · exact (hide_in (by simp [e])).symm
      · rw [hide_out (by simp [e]), g a (mem_less.mpr ⟨c, e⟩)]
    · have c2 : a ∉ less o u := fun z => c (mem_less.mp z).1
      have c3 : a ∉ [u] := fun z => c (by rw [show a = u by simpa using z]; exact A.mem)
      rw [hide_out c, hide_out c3, back_out c2]
  have D1 : Dr H1 (back H1 (less o u) G) o u (n + k) := by
    refine ⟨by rw [eq]; exact ex, fun a ha => ?_, fun a ha ne => back_in (mem_less.mpr ⟨ha, ne⟩), U3.keep (back_out nu)⟩
    by_cases e : a = u
    · obtain ⟨b, c, m', h0, _⟩ := U3
      exact ⟨.lst [.int b, .int c, .int m'], by rw [e, back_out nu]; exact h0, True.intro⟩
    · rw [back_in (mem_less.mpr ⟨ha, e⟩)]
      exact W1 a ha
  exact q v d _ r (D0.trans D1) (by rw [eq]; exact x)
end
end Ph
namespace Ph
open PySem PySem.Spec PyProof.Rows L2
section
variable {K : PySem.W.Frag} {o : List Addr} {u : Addr} {iu : Nat} {ds : List (Option PyData)} {ta tb te : TE} {d e : PyData} {R P : PyData → Prop} {k j : Nat}
theorem wipe_get {σ : L2.St} {i : Nat} : ∀ {vs : List Nat}, i ∉ vs → (L2.wipe σ vs)[i]? = σ[i]?
  | [], _ => rfl
  | v :: vs, h => by
    have h1 : v ≠ i := fun e => h (by rw [e]; exact List.mem_cons_self)
    have h2 : i ∉ vs := fun e => h (List.mem_cons_of_mem _ e)
    show ((L2.wipe σ vs).set v none)[i]? = σ[i]?
    rw [List.getElem?_set_ne h1, wipe_get h2]
/-- a target that sets slots of vs alone -/
def GsD (K : PySem.W.Frag) (vs : List Nat) (g : TG) (ds : List (Option PyData)) (e : PyData) (ds' : List (Option PyData)) : Prop :=
  ∀ x σ H o, DD K (hide H o) x e → En K (hide H o) σ ds → ∀ Q : L2.St → Hp → Prop, (∀ σ', L2.wipe σ' vs = L2.wipe σ vs → En K (hide H o) σ' ds' → Q σ' H) → g x σ H Q
theorem gs_name {i : Nat} {vs : List Nat} (h : i ∈ vs) : GsD K vs (gName i) ds e (ds.set i (some e)) := fun x σ H o hx E Q q => q _ (wipe_set h) (E.set hx i)
theorem gs_two {i l : Nat} {vs : List Nat} {a b : PyData} (h : i ∈ vs) (h' : l ∈ vs) : GsD K vs (gTup K 2 (gCons (gName i) (gCons (gName l) gNil))) ds (.tuple [a, b]) ((ds.set i (some a)).set l (some b)) := fun x σ H o hx E Q q => by
  obtain ⟨p, xs, rfl, hq, t⟩ := dd_tup hx
  cases t with
  | cons h1 t =>
    cases t with
    | cons h2 t =>
      cases t
      exact ⟨p, _, rfl, ex_sqT hide_ex hq, rfl, _, _, rfl, _, _, rfl, rfl, q _ (by rw [wipe_set h', wipe_set h]) ((E.set h1 i).set h2 l)⟩
def EiU (K : PySem.W.Frag) (o : List Addr) (u : Addr) (iu : Nat) (wi : TI) (ds : List (Option PyData)) (k : Nat) (S : List PyData → Prop) : Prop :=
  ∀ σ H n, En K (hide H o) σ ds → Owned H o → At H o u iu σ n → n + k ≤ 100000 → ∀ R : It → Hp → Prop, (∀ J H2 es, S es → Dr H H2 o u (n + k) → ItD K (hide H2 o) J es → R J H2) → wi σ H R
theorem eiu_pure {wi : TI} {es : List PyData} (h : EvI K o wi ds es) : EiU K o u iu wi ds 0 (fun x => x = es) := fun σ H n E W A hn R r =>
  h σ H E W R fun J H2 e2 W2 it => r J H2 es rfl (Dr.of e2 W A.urn) it
def rngD (N : Nat) : List PyData := (List.range N).map fun i => .int (0 + (i : Nat))
theorem eiu_rng {M : Nat} (h : EvU K o u iu ta ds k (fun d => ∃ N : Nat, N ≤ M ∧ d = .int N)) (hM : M ≤ 1000000) : EiU K o u iu (iRng1 (tCons ta tNil)) ds k (fun es => ∃ N : Nat, N ≤ M ∧ es = rngD N) := fun σ H n E W A hn R r =>
  h σ H n E W A hn _ fun v d H2 hd D x => by
    obtain ⟨N, hN, rfl⟩ := hd
    refine ⟨N, by rw [dd_int x], ?_, ?_, ?_⟩
    · have h1 : (0 : Int) ≤ (N : Int) := Int.natCast_nonneg _
      exact Int.le_trans (by decide) h1
    · exact Int.lt_of_le_of_lt (show (N : Int) ≤ 1000000 by omega) (by decide)
    · exact r _ H2 (rngD N) ⟨N, hN, rfl⟩ D (by rw [Int.toNat_natCast]; exact it_rng)
/-- [elt for target in iter], draws in both -/
theorem eu_lc {wi : TI} {g : TG} {vs : List Nat} {S : List PyData → Prop} (M : Nat) (ds' : PyData → List (Option PyData)) (hi : EiU K o u iu wi ds k S) (hS : ∀ es, S es → es.length ≤ M) (hM : M ≤ 1000000) (hv : iu ∉ vs)
    (hg : ∀ es, S es → ∀ e ∈ es, GsD K vs g (wipeD ds vs) e (ds' e)) (he : ∀ es, S es → ∀ e ∈ es, ∀ o, EvU K o u iu te (ds' e) j P) :
    EvU K o u iu (tLc wi g tYes te vs) ds (k + M * j) (fun d => ∃ es os, S es ∧ d = .list os ∧ os.length = es.length ∧ ∀ x ∈ os, P x) := fun σ H n E W A hn Q q =>
  hi σ H n E W A (by omega) _ fun J H1 es hs D1 it D nD => by
    have W1 := D1.ow
    have nDo : D ∉ o := ow_new W1 nD
    have nDu : D ≠ u := fun z => nDo (by rw [z]; exact A.mem)
    have hl := hS es hs
    have hG : ∀ {H' : Hp}, Ex (hide H1 o) (hide H' (D :: o)) → ∀ a x, a ∉ D :: o → H1 a = some x → H' a = some x := fun {H'} z a x m e => by
      have y := z a x (by rw [hide_out (fun t => m (List.mem_cons_of_mem _ t))]; exact e)
      rw [hide_out m] at y
      exact y
    refine ⟨fun i m H2 => m = es.length - i ∧ i ≤ es.length ∧ Ex (hide H1 o) (hide H2 (D :: o)) ∧ Owned H2 (D :: o) ∧ (∀ a ∈ o, a ≠ u → H2 a = H1 a) ∧ Urn H2 u (n + k + i * j) ∧ ∃ acc os, H2 D = some (.lst acc) ∧ DDs K (hide H2 (D :: o)) acc os ∧ os.length = i ∧ ∀ x ∈ os, P x, ⟨es.length, ?_⟩, fun i m H2 w => ?_⟩
    · refine ⟨rfl, Nat.zero_le _, fun a x e => ?_, fun a ha => ?_, fun a ha ne => ?_, ?_, [], [], upd_same, .nil, rfl, fun x hx => by cases hx⟩
      · obtain ⟨c, e⟩ := hide_some e
        have na : a ≠ D := ne_of_none e nD
        rw [hide_out (fun m => by rcases List.mem_cons.mp m with m | m; exact na m; exact c m), upd_ne na]
        exact e
      · rcases List.mem_cons.mp ha with rfl | ha
        · exact ⟨_, upd_same, True.intro⟩
        · exact ow_mono W1 (ex_new nD) a ha
      · exact upd_ne (fun z => nDo (by rw [← z]; exact ha))
      · exact (D1.urn.keep (upd_ne (Ne.symm nDu))).mono (by omega)
    · obtain ⟨rfl, hi2, G2, W2, sm2, U2, acc, os, hD, t, lo, hP⟩ := w
      by_cases cl : i < es.length
      · obtain ⟨e, he'⟩ : ∃ e, es[i]? = some e := ⟨_, List.getElem?_eq_getElem cl⟩
        have hm : e ∈ es := List.mem_of_getElem? he'
        obtain ⟨go, yl⟩ := (it H2 (D :: o) G2 W2 i).1 e he'
        have bud : n + k + i * j + j ≤ 100000 := by
          have z : i * j + j ≤ M * j := by
            have z2 : (i + 1) * j ≤ M * j := Nat.mul_le_mul_right j (by omega)
            rw [Nat.add_mul, Nat.one_mul] at z2
            exact z2
          omega
        refine .inr ⟨go, fun H3 => Ex (hide H1 o) (hide H3 (D :: o)) ∧ Owned H3 (D :: o) ∧ (∀ a ∈ o, a ≠ u → H3 a = H1 a) ∧ Urn H3 u (n + k + (i + 1) * j) ∧ ∃ acc os, H3 D = some (.lst acc) ∧ DDs K (hide H3 (D :: o)) acc os ∧ os.length = i + 1 ∧ ∀ x ∈ os, P x, fun H' z => ⟨es.length - (i + 1), by omega, rfl, cl, z⟩, fun x H' y => ?_⟩
        obtain ⟨ex3, hx⟩ := yl x H' y
        have W3 := ow_mono W2 ex3
        have E3 : En K (hide H' (D :: o)) (L2.wipe σ vs) (wipeD ds vs) := ((E.mono D1.ex).mono (G2.trans (ex_hide ex3))).wipe vs
        have ww : L2.wipe (L2.wipe σ vs) vs = L2.wipe σ vs := wipe_wipe fun v hv => hv
        have D3 := Dr.of (u := u) ex3 W2 U2
        refine (show g x (L2.wipe σ vs) H' _ from ?_)
        refine hg es hs e hm x (L2.wipe σ vs) H' (D :: o) hx E3 _ fun σ2 hσ E4 => ⟨hσ.trans ww, ?_⟩
        · unfold tYes
          dsimp only
          rw [if_pos rfl]
          have sl : σ2[iu]? = some (some (.ref u)) := by
            have z1 := wipe_get (σ := σ2) hv
            rw [hσ, ww, wipe_get hv] at z1
            exact z1.symm.trans A.slot
          refine he es hs e hm (D :: o) σ2 H' _ E4 W3 ⟨List.mem_cons_of_mem _ A.mem, sl, D3.urn⟩ bud _ fun y dy H5 hy D5 xy => ?_
          have hD5 : H5 D = some (.lst acc) := (D5.same D List.mem_cons_self nDu).trans (ex3 _ _ hD)
          have hh : hide (upd H5 D (.lst (acc ++ [y]))) (D :: o) = hide H5 (D :: o) := by
            funext a
            by_cases m : a ∈ D :: o
            · rw [hide_in m, hide_in m]
            · rw [hide_out m, hide_out m, upd_ne (fun z => m (by rw [z]; exact List.mem_cons_self))]
          refine ⟨acc, hD5, ?_, ?_, ?_, ?_, ?_, acc ++ [y], os ++ [dy], upd_same, ?_, by rw [List.length_append, lo]; rfl, fun x hx => ?_⟩
          · rw [t.length, lo]
            exact Nat.lt_of_lt_of_le cl (Nat.le_trans (Nat.le_trans hl hM) (by decide))
          · rw [hh]
            exact G2.trans ((ex_hide ex3).trans D5.ex)
          · intro a ha
            by_cases c : a = D
            · exact ⟨.lst (acc ++ [y]), by rw [c, upd_same], True.intro⟩
            · rw [upd_ne c]
              exact D5.ow a ha
          · intro a ha ne
            have c : a ≠ D := fun z => nDo (by rw [← z]; exact ha)
            rw [upd_ne c, D5.same a (List.mem_cons_of_mem _ ha) ne]
            obtain ⟨w, hw2, _⟩ := W2 a (List.mem_cons_of_mem _ ha)
            rw [ex3 _ _ hw2, ← hw2, sm2 a ha ne]
          · have z := D5.urn.keep (upd_ne (Ne.symm nDu) : (upd H5 D (.lst (acc ++ [y]))) u = H5 u)
            exact z.mono (by rw [Nat.add_mul, Nat.one_mul]; omega)
          · rw [hh]
            exact (t.mono ((ex_hide ex3).trans D5.ex)).append (.cons xy .nil)
          · rcases List.mem_append.mp hx with hx | hx
            · exact hP x hx
            · rw [show x = dy by simpa using hx]
              exact hy
      · have ei : i = es.length := by omega
        refine .inl ⟨(it H2 (D :: o) G2 W2 i).2 (by omega), ?_⟩
        have nouter : Ex (hide H2 (D :: o)) (hide H2 o) := fun a x z => by
          obtain ⟨c2, z⟩ := hide_some z
          rw [hide_out (fun m => c2 (List.mem_cons_of_mem _ m))]
          exact z
        refine q _ (.list os) H2 ⟨es, os, hs, rfl, by omega, hP⟩ ?_ (.lst (by rw [hide_out nDo]; exact hD) (t.mono nouter))
        refine D1.trans ⟨G2.trans nouter, fun a ha => W2 a (List.mem_cons_of_mem _ ha), sm2, U2.mono ?_⟩
        have z2 : i * j ≤ M * j := Nat.mul_le_mul_right j (by omega)
        omega
end
end Ph
namespace Ph
open PySem PySem.Spec PyProof.Rows L2
abbrev pre_take : List PyData → Prop := fun as => ∃ low : Int, as = [.int low] ∧ 1 ≤ low ∧ low ≤ 1000000
abbrev R_take : List PyData → PyData → Prop := fun as d => ∃ low r : Int, as = [.int low] ∧ d = .int r ∧ 0 ≤ r ∧ r < low
theorem take_U {P : Program} {w : World} {K : PySem.W.Frag} {mg : Str → Option Value} {base : Heap} {k : Nat} {f : Addr} {fd : FuncData} (F : FnOk P w K mg base CX0 k f fd ["urn", "low_so"] spTake) :
    FnOk P w K mg base CX0 k f fd ["urn", "low_so"] (spU K 1 1 pre_take R_take) := F.imp fun vs H Q E h => by
  obtain ⟨u, n, us, as, rfl, U, hn, t, hl, ⟨low, rfl, l1, l2⟩, q⟩ := h
  cases t with
  | cons h t =>
    cases t
    cases dd_int h
    refine ⟨u, low, n, rfl, U, by omega, l1, l2, fun r H' r0 r1 b U2 => q _ (.int r) H' ⟨low, r, rfl, rfl, r0, r1⟩ (fun a x e => ?_) U2 (.int r)⟩
    obtain ⟨c, e⟩ := hide_some e
    have ne : a ≠ u := fun z => c (by simp [z])
    rw [hide_out c]
    exact b a x ne e
/-- a new source: from cell number k of the list at a -/
def spBox : Sp := fun vs H Q _ => ∃ (a : Addr) (ns : List Int) (k : Nat), vs = [.ref a, .int k] ∧ H a = some (.lst (ns.map V.int)) ∧ k < ns.length ∧ k ≤ 1000 ∧ ∀ u H', Ex H H' → H u = none → Urn H' u 0 → Q (.ref u) H'
def spCells (K : PySem.W.Frag) : Sp := fun vs H Q _ => ∃ (a : Addr) (ns : List Int) (top : Int), vs = [.ref a, .int top] ∧ SqL K H a (ns.map V.int) ∧ ns.length ≤ 63 ∧ 1 ≤ top ∧ top ≤ 1000 ∧
  ∀ p H' ms, Ex H H' → H p = none → H' p = some (.lst ((ms : List Int).map V.int)) → 1 ≤ ms.length → (ms.length : Int) ≤ top → Q (.ref p) H'
abbrev pre_of : List PyData → Prop := fun as => ∃ es, as = [.list es] ∧ 1 ≤ es.length ∧ es.length ≤ 1000000
abbrev R_of : List PyData → PyData → Prop := fun as d => ∃ es, as = [.list es] ∧ d ∈ es
theorem mapGet {ns : List Int} {k : Nat} (h : k < ns.length) : (ns.map PyData.int)[k]? = some (.int ns[k]) := by
  rw [List.getElem?_map, List.getElem?_eq_getElem h]
  rfl
end Ph
namespace Ph
open PySem PySem.Spec PyProof.Rows L2
section
variable {K : PySem.W.Frag} {o : List Addr} {ds : List (Option PyData)} {ta : TA} {es : List PyData} {D : Ends} {σ : L2.St} {H : Hp}
theorem st_retNew (E : En K (hide H o) σ ds) (W : Owned H o) (h : EvA K o ta ds es) (hl : es.length ≤ sizeLine)
    (k : ∀ vs p H1 H2, Ex H H1 → H1 p = none → H2 = upd H1 p (.lst vs) → DDs K (hide H1 o) vs es → D.rt (.ref p) H2) : tRet (tLst ta) D σ H :=
  h σ H E W _ fun vs H1 e1 W1 xs => ⟨by rw [xs.length]; exact hl, fun p hp => k vs p H1 _ e1 hp rfl xs⟩
end
end Ph
namespace Ph
theorem b01 (b : Bool) : -(2 ^ 64) < (if b = true then (1 : Int) else 0) ∧ (if b = true then (1 : Int) else 0) < 2 ^ 64 := by cases b <;> decide
theorem b0 (b : Bool) : 0 ≤ (if b = true then (1 : Int) else 0) := by cases b <;> decide
end Ph
namespace Ph
open PySem PySem.Spec PyProof.Rows L2
/-- a block that returns, with draws -/
def SrU (K : PySem.W.Frag) (o : List Addr) (u : Addr) (iu : Nat) (ts : TS) (ds : List (Option PyData)) (k : Nat) (R : PyData → Prop) : Prop :=
  ∀ (D : Ends) σ H n, En K (hide H o) σ ds → Owned H o → At H o u iu σ n → n + k ≤ 100000 → (∀ v d H2, R d → Dr H H2 o u (n + k) → DD K (hide H2 o) v d → D.rt v H2) → ts D σ H
section
variable {K : PySem.W.Frag} {o : List Addr} {u : Addr} {iu : Nat} {ds : List (Option PyData)} {te : TE} {R S : PyData → Prop} {k j : Nat} {D : Ends} {σ : L2.St} {H : Hp} {n : Nat}
theorem su_ret (h : EvU K o u iu te ds k R) : SrU K o u iu (tRet te) ds k R := fun D σ H n E W A hn q => h σ H n E W A hn _ q
theorem su_more (h : SrU K o u iu ts ds j R) (l : j ≤ k) : SrU K o u iu ts ds k R := fun D σ H n E W A hn q =>
  h D σ H n E W A (by omega) fun v d H2 r D2 x => q v d H2 r (D2.up (by omega)) x
end
section
variable {P : Program} {w : World} {K : PySem.W.Frag} {mg : Str → Option Value} {base : Heap}
theorem fn_draw {x qual : Str} {st : Stmt} {f : Addr} {fd : FuncData} {N ps : List Str} {l m k : Nat} {pre : List PyData → Prop} {R : List PyData → PyData → Prop} (F : Fun K x qual st f fd) (S : FnScope N ps (defScope st)) (hm : ps.length = m + 1)
    (hbody : ∀ (cdv : Value) (A : Around) (outer : List Env) (s : Shared) (H : Hp) (E : XK), Room l (A.deeper (envOfC qual (defScope st) s.heap.objs.size f cdv)) →
      ∃ t, PSs (cxOf CX0 P w K mg base N qual (defScope st) f cdv A outer s H E).nox (defBody st) t ∧ ∀ u as, as.length = m → pre as → SrU K [u] u 0 t (none :: as.map some ++ List.replicate (N.length - (as.length + 1)) none) k (R as)) :
    FnOk P w K mg base CX0 (l + 1) f fd ps (spU K m k pre R) := by
  refine F.ok S (fun vs H Q E h => ?_) (fun cdv A outer s H vs Q E hr h => ?_)
  · obtain ⟨u, n, us, as, rfl, _, _, t, hl, _⟩ := h
    rw [List.length_cons, t.length, hl, hm]
  · obtain ⟨u, n, us, as, rfl, U, hn, t, hl, hp, q⟩ := h
    obtain ⟨tt, hps, hv⟩ := hbody cdv A outer s H E hr
    refine ⟨tt, hps, ?_⟩
    have z : start N (.ref u :: us) = some (.ref u) :: us.map some ++ List.replicate (N.length - (us.length + 1)) none := rfl
    rw [z, t.length]
    refine hv u as hl hp _ _ H n ?_ (urn_own U) ⟨by simp, rfl, U⟩ hn fun v d H2 r D2 x => q v d H2 r D2.ex D2.urn x
    exact .no (en_start _ t)
end
end Ph
namespace Ph
open PySem PySem.Spec PyProof.Rows L2
theorem rngD_len {N : Nat} : (rngD N).length = N := by
  unfold rngD
  rw [List.length_map, List.length_range]
theorem take_int {low : Int} {d : PyData} (r : R_take [.int low] d) : ∃ x : Int, d = .int x ∧ 0 ≤ x ∧ x < low := by
  obtain ⟨l, x, e, rfl, x0, x1⟩ := r
  cases e
  exact ⟨x, rfl, x0, x1⟩
end Ph
namespace Ph
open PySem PySem.Spec PyProof.Rows L2
def fz : Nat → PyData → Prop
  | 0, d => scalD d = true
  | n + 1, .tuple es => ∀ e ∈ es, fz n e
  | _ + 1, d => scalD d = true
def Fz (d : PyData) : Prop := ∃ n, fz n d
theorem fz_scal {d : PyData} (h : scalD d = true) : Fz d := ⟨0, h⟩
theorem fz_nums {ns : List Int} : Fz (nums ns) := ⟨1, fun e he => by
  obtain ⟨i, _, rfl⟩ := List.mem_map.mp he
  rfl⟩
/-- the tuples of G stand in G' -/
def TK (K : PySem.W.Frag) (G G' : Hp) : Prop := ∀ a xs, SqT K G a xs → SqT K G' a xs
theorem dd_fz {K : PySem.W.Frag} {G G' : Hp} (t : TK K G G') : ∀ (n : Nat) {v : V} {d : PyData}, fz n d → DD K G v d → DD K G' v d
  | 0, v, d, h, x => dd_flat x h
  | n + 1, v, d, h, x => by
    cases x with
    | non => exact .non
    | bl b => exact .bl b
    | int i => exact .int i
    | str y => exact .str y
    | lst _ _ => cases h
    | dct _ _ => cases h
    | @tup a xs ds q r =>
      refine .tup (t _ _ q) ?_
      replace h : ∀ e ∈ ds, fz n e := h
      clear q
      induction ds generalizing xs with
      | nil => cases r; exact .nil
      | cons d ds ih =>
        cases r with
        | cons r1 r2 => exact .cons (dd_fz t n (h _ List.mem_cons_self) r1) (ih r2 fun e m => h e (List.mem_cons_of_mem _ m))
theorem tk_hide {K : PySem.W.Frag} {H : Hp} {o o' : List Addr} (W : Owned H o') : TK K (hide H o) (hide H o') := fun a xs h => by
  rcases h with (h | ⟨ob, h⟩) | h
  · have e := (hide_some h).2
    exact .inl (.inl (by rw [hide_out (owned_ne W e fun z => z)]; exact e))
  · have e := (hide_some h).2
    exact .inl (.inr ⟨ob, by rw [hide_out (owned_ne W e fun z => z)]; exact e⟩)
  · exact .inr h
/-- what a mutable holds: a list's data; a dict's -/
inductive MC where
  | l (es : List PyData)
  | d (ms : List (PyData × PyData))
  | f (p : Addr) (x : HO)
inductive Ob (K : PySem.W.Frag) (G : Hp) : Addr → HO → MC → Prop
  | l {p : Addr} {vs : List V} {es : List PyData} : DDs K G vs es → Ob K G p (.lst vs) (.l es)
  | d {p : Addr} {kvs : List (Key × V)} {ms : List (PyData × PyData)} : DKs K G kvs ms → Ob K G p (.dK kvs) (.d ms)
  | f {p : Addr} {x : HO} : Aside x → Ob K G p x (.f p x)
section
variable {K : PySem.W.Frag} {G G' : Hp}
theorem Ob.mono {p : Addr} {x : HO} {c : MC} (g : Ex G G') (h : Ob K G p x c) : Ob K G' p x c := by
  cases h with
  | l t => exact .l (t.mono g)
  | d t => exact .d (t.mono g)
  | f t => exact .f t
theorem Ob.aside {p : Addr} {x : HO} {c : MC} (h : Ob K G p x c) : Aside x := by
  cases h <;> first | exact True.intro | assumption
end
abbrev ML := List (Nat × MC)
inductive Mu (K : PySem.W.Frag) (G H : Hp) (σ : L2.St) (B : Hp) (o : List Addr) : ML → List Addr → Prop
  | nil : Mu K G H σ B o [] []
  | cons {i : Nat} {c : MC} {p : Addr} {x : HO} {M : ML} {ps : List Addr} : σ[i]? = some (some (.ref p)) → H p = some x → Ob K G p x c → B p = none → p ∉ o → Mu K G H σ B o M ps → Mu K G H σ B o ((i, c) :: M) (p :: ps)
section
variable {K : PySem.W.Frag} {G G' H H' : Hp} {σ : L2.St} {B : Hp} {o : List Addr}
theorem Mu.at : ∀ {M : ML} {ps : List Addr} {k i : Nat} {c : MC}, Mu K G H σ B o M ps → M[k]? = some (i, c) → ∃ p x, ps[k]? = some p ∧ σ[i]? = some (some (.ref p)) ∧ H p = some x ∧ Ob K G p x c ∧ B p = none ∧ p ∉ o
  | _, _, _, _, _, .nil, h => by simp at h
  | _, _, 0, _, _, .cons (p := p) (x := x) a b c d e _, h => by
    cases Option.some.inj h
    exact ⟨p, x, rfl, a, b, c, d, e⟩
  | _, _, k + 1, _, _, .cons _ _ _ _ _ r, h => by
    obtain ⟨p, x, q, z⟩ := Mu.at (k := k) r (by simpa using h)
    exact ⟨p, x, by simpa using q, z⟩
theorem Mu.own : ∀ {M : ML} {ps : List Addr}, Mu K G H σ B o M ps → ∀ a ∈ ps, ∃ x, H a = some x ∧ Aside x ∧ B a = none ∧ a ∉ o
  | _, _, .nil, a, h => by cases h
  | _, _, .cons (x := x) _ b c d e r, a, h => by
    rcases List.mem_cons.mp h with rfl | h
    · exact ⟨x, b, c.aside, d, e⟩
    · exact Mu.own r a h
theorem Mu.ex (e : Ex H H') (g : Ex G G') : ∀ {M : ML} {ps : List Addr}, Mu K G H σ B o M ps → Mu K G' H' σ B o M ps
  | _, _, .nil => .nil
  | _, _, .cons a b c d f r => .cons a (e _ _ b) (c.mono g) d f (Mu.ex e g r)
theorem Mu.keep (e : ∀ a ∈ (ps : List Addr), H' a = H a) (g : Ex G G') : ∀ {M : ML}, Mu K G H σ B o M ps → Mu K G' H' σ B o M ps := by
  intro M m
  induction m with
  | nil => exact .nil
  | cons a b c d f r ih => exact .cons a ((e _ List.mem_cons_self).trans b) (c.mono g) d f (ih fun a m => e a (List.mem_cons_of_mem _ m))
theorem Mu.slot {j : Nat} {x : Option V} : ∀ {M : ML} {ps : List Addr}, Mu K G H σ B o M ps → (∀ m ∈ M, m.1 ≠ j) → Mu K G H (σ.set j x) B o M ps
  | _, _, .nil, _ => .nil
  | _, _, .cons a b c d e r, h => .cons (by rw [List.getElem?_set_ne (Ne.symm (h _ List.mem_cons_self))]; exact a) b c d e (Mu.slot r fun m hm => h m (List.mem_cons_of_mem _ hm))
theorem Mu.base {B' : Hp} : ∀ {M : ML} {ps : List Addr}, Mu K G H σ B o M ps → (∀ a ∈ ps, B' a = none) → Mu K G H σ B' o M ps
  | _, _, .nil, _ => .nil
  | _, _, .cons a b c d e r, h => .cons a b c (h _ List.mem_cons_self) e (Mu.base r fun a m => h a (List.mem_cons_of_mem _ m))
theorem Mu.upd {x : HO} {c : MC} {p : Addr} (t : Ob K G p x c) : ∀ {M : ML} {ps : List Addr} {k i : Nat} {e0 : MC}, Mu K G H σ B o M ps → ps.Nodup → M[k]? = some (i, e0) → ps[k]? = some p → Mu K G (upd H p x) σ B o (M.set k (i, c)) ps
  | _, _, _, _, _, .nil, _, h, _ => by simp at h
  | _, _, 0, _, _, .cons (ps := ps) a b _ d e r, nd, h, h2 => by
    cases Option.some.inj h
    cases Option.some.inj h2
    exact .cons a upd_same t d e (r.keep (fun a m => upd_ne fun z => (List.nodup_cons.mp nd).1 (by rw [← z]; exact m)) (Same.refl _))
  | _, _, k + 1, _, _, .cons (p := q) (ps := ps) a b y d e r, nd, h, h2 => by
    have h2 : ps[k]? = some p := by simpa using h2
    have ne : q ≠ p := fun z => (List.nodup_cons.mp nd).1 (z ▸ List.mem_of_getElem? h2)
    exact .cons a (by rw [upd_ne ne]; exact b) y d e (Mu.upd t r (List.nodup_cons.mp nd).2 (by simpa using h) h2)
/-- the slots' data with the mutable lists -/
def fill (ds : List (Option PyData)) : ML → List (Option PyData)
  | [] => ds
  | (i, .l es) :: M => (fill ds M).set i (some (.list es))
  | (i, .d ms) :: M => (fill ds M).set i (some (.dict ms))
  | (_, .f _ _) :: M => fill ds M
theorem en_at {v : V} {d : PyData} {ds : List (Option PyData)} {i : Nat} (E : En K G σ ds) (h : σ[i]? = some (some v)) (x : DD K G v d) : En K G σ (ds.set i (some d)) := by
  have z := E.set x i
  have e : σ.set i (some v) = σ := by
    obtain ⟨l, e⟩ := List.getElem?_eq_some_iff.mp h
    rw [← e, List.set_getElem_self]
  rw [e] at z
  exact z
theorem Mu.fill {ds : List (Option PyData)} (g : Ex G G') (l : ∀ a x, a ∉ o → H a = some x → G' a = some x) : ∀ {M : ML} {ps : List Addr}, Mu K G H σ B o M ps → En K G' σ ds → En K G' σ (Ph.fill ds M) := by
  intro M ps m
  induction m with
  | nil => exact fun E => E
  | cons a b c d e r ih =>
    intro E
    cases c with
    | l t => exact en_at (ih E) a (.lst (l _ _ e b) (t.mono g))
    | d t => exact en_at (ih E) a (.dct (l _ _ e b) (t.mono g))
    | f t => exact ih E
end
structure MS (K : PySem.W.Frag) (B : Hp) (o : List Addr) (M : ML) (ps : List Addr) (σ : L2.St) (H : Hp) (ds : List (Option PyData)) : Prop where
  ex : Ex B (hide H o)
  ow : Owned H o
  en : En K (hide H (ps ++ o)) σ ds
  mu : Mu K (hide H (ps ++ o)) H σ B o M ps
  nd : ps.Nodup
section
variable {K : PySem.W.Frag} {B : Hp} {o ps : List Addr} {M M1 M2 : ML} {σ : L2.St} {H H' : Hp} {ds ds1 ds2 : List (Option PyData)} {ta tb te : TE} {d e : PyData}
theorem MS.owA (s : MS K B o M ps σ H ds) : Owned H (ps ++ o) := fun a ha => by
  rcases List.mem_append.mp ha with h | h
  · obtain ⟨x, e, y, _⟩ := s.mu.own a h
    exact ⟨x, e, y⟩
  · exact s.ow a h
theorem hide_app : Ex (hide H (ps ++ o)) (hide H o) := fun a x h => by
  obtain ⟨c, h⟩ := hide_some h
  rw [hide_out fun m => c (List.mem_append_right _ m)]
  exact h
theorem MS.full (s : MS K B o M ps σ H ds) : En K (hide H o) σ (fill ds M) :=
  s.mu.fill hide_app (fun a x n h => by rw [hide_out n]; exact h) (s.en.mono hide_app)
theorem MS.to (s : MS K B o M ps σ H ds) (e : Ex H H') : MS K B o M ps σ H' ds :=
  ⟨s.ex.trans (ex_hide e), ow_mono s.ow e, s.en.mono (ex_hide e), s.mu.ex e (ex_hide e), s.nd⟩
theorem MS.set (s : MS K B o M ps σ H ds) {v : V} {i : Nat} (x : DD K (hide H (ps ++ o)) v e) (hi : ∀ m ∈ M, m.1 ≠ i) : MS K B o M ps (σ.set i (some v)) H (ds.set i (some e)) :=
  ⟨s.ex, s.ow, s.en.set x i, s.mu.slot hi, s.nd⟩
theorem hide_upd {p : Addr} {x : HO} (h : p ∈ o) : hide (upd H p x) o = hide H o := by
  funext a
  by_cases c : a ∈ o
  · rw [hide_in c, hide_in c]
  · rw [hide_out c, hide_out c, upd_ne fun z => c (by rw [z]; exact h)]
theorem MS.put (s : MS K B o M ps σ H ds) {k i : Nat} {c0 c : MC} {x : HO} {p : Addr} (hk : M[k]? = some (i, c0)) (hp : ps[k]? = some p) (t : Ob K (hide H (ps ++ o)) p x c) : MS K B o (M.set k (i, c)) ps σ (upd H p x) ds := by
  have hm : p ∈ ps := List.mem_of_getElem? hp
  have hh : hide (upd H p x) (ps ++ o) = hide H (ps ++ o) := hide_upd (List.mem_append_left _ hm)
  obtain ⟨x0, q, _, b, n⟩ := s.mu.own p hm
  refine ⟨fun a y h => ?_, fun a ha => ?_, by rw [hh]; exact s.en, by rw [hh]; exact s.mu.upd t s.nd hk hp, s.nd⟩
  · have z := s.ex a y h
    obtain ⟨c, z⟩ := hide_some z
    rw [hide_out c, upd_ne (ne_of_none h b)]
    exact z
  · obtain ⟨z, e, y⟩ := s.ow a ha
    exact ⟨z, by rw [upd_ne (fun z => n (by rw [← z]; exact ha))]; exact e, y⟩
/-- a list becomes data -/
theorem Mu.drop {G : Hp} : ∀ {M : ML} {ps : List Addr} (k : Nat), Mu K G H σ B o M ps → Mu K G H σ B o (M.eraseIdx k) (ps.eraseIdx k)
  | _, _, _, .nil => .nil
  | _, _, 0, .cons a b c d e r => r
  | _, _, k + 1, .cons a b c d e r => .cons a b c d e (Mu.drop k r)
end
end Ph
namespace Ph
open PySem PySem.Spec PyProof.Rows L2
section
variable {K : PySem.W.Frag} {o : List Addr} {M M1 M2 : ML} {ds ds1 ds2 : List (Option PyData)} {ta tb te : TE} {d e : PyData}
def EvM (K : PySem.W.Frag) (o : List Addr) (M : ML) (te : TE) (ds : List (Option PyData)) (d : PyData) : Prop :=
  ∀ B ps σ H, MS K B o M ps σ H ds → ∀ Q : VK, (∀ v H2, MS K B o M ps σ H2 ds → Ex H H2 → DD K (hide H2 (ps ++ o)) v d → Q v H2) → te σ H Q
def EbM (K : PySem.W.Frag) (o : List Addr) (M : ML) (tt : TT) (ds : List (Option PyData)) (b : Bool) : Prop :=
  ∀ B ps σ H, MS K B o M ps σ H ds → ∀ Q : Bool → Hp → Prop, (∀ H2, MS K B o M ps σ H2 ds → Ex H H2 → Q b H2) → tt σ H Q
theorem em_pure (h : ∀ O, EvD K O te ds d) : EvM K o M te ds d := fun B ps σ H s Q q => h (ps ++ o) σ H s.en s.owA Q fun v H2 e2 W2 x => q v H2 (s.to e2) e2 x
theorem em_full (h : EvD K o te (fill ds M) d) (f : Fz d) : EvM K o M te ds d := fun B ps σ H s Q q => h σ H s.full s.ow Q fun v H2 e2 W2 x => by
  obtain ⟨n, f⟩ := f
  exact q v H2 (s.to e2) e2 (dd_fz (tk_hide (s.to e2).owA) n f x)
theorem bm_pure {t : TT} {b : Bool} (h : ∀ O, EvB K O t ds b) : EbM K o M t ds b := fun B ps σ H s Q q => h (ps ++ o) σ H s.en s.owA Q fun H2 e2 W2 => q H2 (s.to e2) e2
theorem bm_full {t : TT} {b : Bool} (h : EvB K o t (fill ds M) b) : EbM K o M t ds b := fun B ps σ H s Q q => h σ H s.full s.ow Q fun H2 e2 W2 => q H2 (s.to e2) e2
/-- a list that is laid anew -/
def EvF (K : PySem.W.Frag) (O : List Addr) (te : TE) (ds : List (Option PyData)) (es : List PyData) : Prop :=
  ∀ σ H, En K (hide H O) σ ds → Owned H O → ∀ Q : VK, (∀ p vs H1 H2, Ex H H1 → Owned H1 O → H1 p = none → H2 = upd H1 p (.lst vs) → DDs K (hide H1 O) vs es → Q (.ref p) H2) → te σ H Q
theorem ef_lst {t : TA} {es : List PyData} (h : EvA K o t ds es) (hl : es.length ≤ sizeLine) : EvF K o (tLst t) ds es := fun σ H E W Q q =>
  h σ H E W _ fun vs H1 e1 W1 xs => ⟨by rw [xs.length]; exact hl, fun p hp => q p vs H1 _ e1 W1 hp rfl xs⟩
theorem dds_rep {G : Hp} {vs : List V} {es : List PyData} (t : DDs K G vs es) : ∀ n : Nat, DDs K G (List.replicate n vs).flatten (List.replicate n es).flatten
  | 0 => .nil
  | n + 1 => by
    rw [List.replicate_succ, List.replicate_succ, List.flatten_cons, List.flatten_cons]
    exact t.append (dds_rep t n)
theorem ef_lstL {es : List PyData} {t : TE} (h : EvD K o t ds (.list es)) : EvF K o (tCB (rLstOf K) (tCons t tNil)) ds es := fun σ H E W Q q =>
  h σ H E W _ fun v H1 e1 W1 x => by
    obtain ⟨a, ys, rfl, hq, r⟩ := dd_lst x
    exact ⟨a, ys, rfl, .inl (SqL.of (hide_some hq).2), fun l hl => q l _ H1 _ e1 W1 hl rfl r⟩
def MvN (K : PySem.W.Frag) (o : List Addr) (ts : TS) (M : ML) (ds : List (Option PyData)) (M' : ML) (ds' : List (Option PyData)) : Prop :=
  ∀ B (D : Ends) ps σ H, MS K B o M ps σ H ds → (∀ σ' H' ps', MS K B o M' ps' σ' H' ds' → D.nx σ' H') → ts D σ H
def MvR (K : PySem.W.Frag) (o : List Addr) (ts : TS) (M : ML) (ds : List (Option PyData)) (d : PyData) : Prop :=
  ∀ B (D : Ends) ps σ H, MS K B o M ps σ H ds → (∀ v H', Ex B (hide H' o) → Owned H' o → DD K (hide H' o) v d → D.rt v H') → ts D σ H
theorem mn_seq {t u : TS} (h : MvN K o t M ds M1 ds1) (h2 : MvN K o u M1 ds1 M2 ds2) : MvN K o (tSeq t u) M ds M2 ds2 := fun B D ps σ H s q =>
  h B _ ps σ H s fun σ1 H1 ps1 s1 => h2 B D ps1 σ1 H1 s1 q
theorem mr_seq {t u : TS} (h : MvN K o t M ds M1 ds1) (h2 : MvR K o u M1 ds1 d) : MvR K o (tSeq t u) M ds d := fun B D ps σ H s q =>
  h B _ ps σ H s fun σ1 H1 ps1 s1 => h2 B D ps1 σ1 H1 s1 q
theorem mn_set {i : Nat} (h : EvM K o M te ds e) (hi : ∀ m ∈ M, m.1 ≠ i) : MvN K o (tAsg te (gName i)) M ds M (ds.set i (some e)) := fun B D ps σ H s q =>
  h B ps σ H s _ fun v H1 s1 e1 x => q _ H1 ps (s1.set x hi)
theorem mn_asg {g : TG} (h : EvM K o M te ds e) {vs : List Nat} (hg : GsD K vs g ds e ds1) (hi : ∀ m ∈ M, m.1 ∉ vs) : MvN K o (tAsg te g) M ds M ds1 := fun B D ps σ H s q =>
  h B ps σ H s _ fun v H1 s1 e1 x => hg v σ H1 (ps ++ o) x s1.en _ fun σ' hs E' => q _ H1 ps ⟨s1.ex, s1.ow, E', by
    have key : ∀ {M : ML} {qs : List Addr}, Mu K (hide H1 (ps ++ o)) H1 σ B o M qs → (∀ m ∈ M, m.1 ∉ vs) → Mu K (hide H1 (ps ++ o)) H1 σ' B o M qs := by
      intro M qs m
      induction m with
      | nil => intro _; exact .nil
      | cons a b c d f r ih =>
        intro hz
        refine .cons ?_ b c d f (ih fun m hm => hz m (List.mem_cons_of_mem _ hm))
        have z := wipe_get (σ := σ') (hz _ List.mem_cons_self)
        rw [hs, wipe_get (hz _ List.mem_cons_self)] at z
        exact z.symm.trans a
    exact key s1.mu hi, s1.nd⟩
/-- a name for a list laid anew -/
theorem mn_new {i : Nat} {es : List PyData} (h : ∀ O, EvF K O te ds es) (hi : ∀ m ∈ M, m.1 ≠ i) (hl : i < ds.length) : MvN K o (tAsg te (gName i)) M ds ((i, .l es) :: M) (ds.set i none) := fun B D ps σ H s q =>
  h (ps ++ o) σ H s.en s.owA _ fun p vs H1 H2 e1 W1 hp e2 t => by
    subst e2
    have s2 := s.to (e1.trans (ex_new (x := .lst vs) hp))
    have np : p ∉ ps ++ o := ow_new W1 hp
    have g : Ex (hide H1 (ps ++ o)) (hide (upd H1 p (.lst vs)) ((p :: ps) ++ o)) := fun a x z => by
      obtain ⟨c, z⟩ := hide_some z
      have na := ne_of_none z hp
      rw [hide_out fun m => by rcases List.mem_cons.mp m with m | m; exact na m; exact c m, upd_ne na]
      exact z
    refine q _ _ (p :: ps) ⟨s2.ex, s2.ow, ((s.en.mono (ex_hide e1)).mono g).unset i, ?_, List.nodup_cons.mpr ⟨fun m => np (List.mem_append_left _ m), s.nd⟩⟩
    refine .cons ?_ upd_same (.l (t.mono g)) ?_ (fun m => np (List.mem_append_right _ m)) ?_
    · have ll : σ.length = ds.length := by
        have : ∀ {G : Hp} {σ : List (Option V)} {ds : List (Option PyData)}, En K G σ ds → σ.length = ds.length := by
          intro G σ ds E
          induction E with
          | nil => rfl
          | no _ ih => simp [ih]
          | yes _ _ ih => simp [ih]
        exact this s.en
      rw [List.getElem?_set_self (by omega)]
    · cases z : B p with
      | none => rfl
      | some x =>
        have y := e1 _ _ ((hide_some (s.ex p x z)).2)
        rw [hp] at y
        cases y
    · exact ((s.mu.ex e1 (ex_hide e1)).ex (ex_new hp) g).slot hi
theorem mn_forget {t : TS} (i : Nat) (h : MvN K o t M ds M1 ds1) : MvN K o t M ds M1 (ds1.set i none) := fun B D ps σ H s q =>
  h B D ps σ H s fun σ' H' ps' s' => q σ' H' ps' ⟨s'.ex, s'.ow, by
    have z := s'.en
    have key : ∀ {G : Hp} {σ : List (Option V)} {ds : List (Option PyData)} (i : Nat), En K G σ ds → En K G σ (ds.set i none) := by
      intro G σ ds i E
      induction E generalizing i with
      | nil => exact .nil
      | no r ih =>
        cases i with
        | zero => exact .no r
        | succ i => exact .no (ih i)
      | yes a r ih =>
        cases i with
        | zero => exact .no r
        | succ i => exact .yes a (ih i)
    exact key i z, s'.mu, s'.nd⟩
theorem mn_append {k i : Nat} {es : List PyData} (hk : M[k]? = some (i, .l es)) (h : EvM K o M te ds e) (hl : es.length < sizeLine) : MvN K o (tDrop (tBM K "list" rAppend (tVar i) (tCons te tNil))) M ds (M.set k (i, .l (es ++ [e]))) ds := fun B D ps σ H s q => by
  obtain ⟨p, x0, hp, hs, hv, t, b, n⟩ := s.mu.at hk
  cases t with | @l vs _ t => ?_
  refine ⟨.ref p, hs, .inl ⟨rfl, vs, SqL.of hv⟩, ?_⟩
  refine h B ps σ H s _ fun v H1 s1 e1 x => ⟨p, vs, v, rfl, rfl, e1 _ _ hv, by rw [t.length]; exact hl, ?_⟩
  exact q _ _ ps (s1.put hk hp (.l ((t.mono (ex_hide e1)).append (.cons x .nil))))
theorem mn_item {k i j : Nat} {es : List PyData} {ti : TE} {n : Int} (hk : M[k]? = some (i, .l es)) (h : EvM K o M te ds e) (h2 : EvM K o M ti ds (.int n)) (hj : ixN es.length n = some j) : MvN K o (tAsg te (gSub (tVar i) ti rSetL)) M ds (M.set k (i, .l (es.set j e))) ds := fun B D ps σ H s q => by
  obtain ⟨p, x0, hp, hs, hv, t, b, nn⟩ := s.mu.at hk
  cases t with | @l vs _ t => ?_
  refine h B ps σ H s _ fun v H1 s1 e1 x => ⟨.ref p, hs, ?_⟩
  refine h2 B ps σ H1 s1 _ fun u H2 s2 e2 y => ⟨p, vs, n, j, rfl, dd_int y, e2 _ _ (e1 _ _ hv), by rw [t.length]; exact hj, ?_⟩
  exact q _ _ ps (s2.put hk hp (.l ((t.mono (ex_hide (e1.trans e2))).set (x.mono (ex_hide e2)) j)))
/-- return, lists read or not -/
theorem mr_ret (h : EvD K o te (fill ds M) d) : MvR K o (tRet te) M ds d := fun B D ps σ H s q =>
  h σ H s.full s.ow _ fun v H2 e2 W2 x => q v H2 (s.ex.trans (ex_hide e2)) W2 x
/-- the slots that are lists at a state -/
theorem MS.base {B B' : Hp} {ps : List Addr} {σ : L2.St} {H : Hp} (s : MS K B o M ps σ H ds) (e : Ex B' B) : MS K B' o M ps σ H ds :=
  ⟨e.trans s.ex, s.ow, s.en, s.mu.base fun a m => by
    obtain ⟨_, _, _, b, _⟩ := s.mu.own a m
    exact e.free b, s.nd⟩
theorem MS.inner {B : Hp} {ps : List Addr} {σ : L2.St} {H : Hp} (s : MS K B o M ps σ H ds) : Ex B (hide H (ps ++ o)) ∧ MS K (hide H (ps ++ o)) o M ps σ H ds := by
  refine ⟨fun a x h => ?_, hide_app, s.ow, s.en, s.mu.base fun a m => hide_in (List.mem_append_left _ m), s.nd⟩
  have z := s.ex a x h
  obtain ⟨c, z⟩ := hide_some z
  rw [hide_out fun m => ?_]
  · exact z
  · rcases List.mem_append.mp m with m | m
    · obtain ⟨_, _, _, b, _⟩ := s.mu.own a m
      rw [h] at b
      cases b
    · exact c m
/-- a for: Im, Id by turns; the mutable lists may be reborn within -/
theorem for_mutG {wi : TI} {g : TG} {tb : TS} {es : List PyData} {B : Hp} {D : Ends} {ps : List Addr} {σ : L2.St} {H : Hp} (Im : Nat → ML) (Id : Nat → List (Option PyData)) (Ok : Nat → Prop) (hi : ∀ R : It → Hp → Prop, (∀ J H2, Ex H H2 → Owned H2 (ps ++ o) → ItD K (hide H2 (ps ++ o)) J es → R J H2) → wi σ H R) (s : MS K B o (Im 0) ps σ H (Id 0)) (ok0 : Ok 0)
    (ht : ∀ i e, es[i]? = some e → Ok i → ∃ dm vs, GsD K vs g (Id i) e dm ∧ (∀ m ∈ Im i, m.1 ∉ vs) ∧ ∀ B' ps σ2 H2 (D' : Ends), Ex B B' → D'.rt = D.rt → D'.bk = D.nx → MS K B' o (Im i) ps σ2 H2 dm → (∀ σ' H' ps', Ok (i + 1) → MS K B' o (Im (i + 1)) ps' σ' H' (Id (i + 1)) → D'.nx σ' H') → tb D' σ2 H2)
    (hn : ∀ σ' H' ps', Ok es.length → MS K B o (Im es.length) ps' σ' H' (Id es.length) → D.nx σ' H') : tFor wi g tb D σ H := by
  refine for_dataG (D := D) hi (fun H1 i σ' H' => Ok i ∧ ∃ ps', MS K (hide H1 (ps ++ o)) o (Im i) ps' σ' H' (Id i)) (fun H1 e1 W1 => ⟨ok0, ps, (s.to e1).inner.2⟩) ?_
  intro H1 e1 W1 i σ' H' p
  obtain ⟨ok, ps', s'⟩ := p
  have xb : Ex B (hide H1 (ps ++ o)) := (s.to e1).inner.1
  refine ⟨ps' ++ o, s'.inner.1, s'.owA, fun e he x H2 e2 hx => ?_, fun hl => ?_⟩
  · obtain ⟨dm, vs, hg, hv, turn⟩ := ht i e he ok
    have s2 := s'.to e2
    refine hg x σ' H2 (ps' ++ o) hx s2.en _ fun σ2 hσ E2 => ?_
    have mu2 : Mu K (hide H2 (ps' ++ o)) H2 σ2 (hide H1 (ps ++ o)) o (Im i) ps' := by
      have key : ∀ {M : ML} {qs : List Addr}, Mu K (hide H2 (ps' ++ o)) H2 σ' (hide H1 (ps ++ o)) o M qs → (∀ m ∈ M, m.1 ∉ vs) → Mu K (hide H2 (ps' ++ o)) H2 σ2 (hide H1 (ps ++ o)) o M qs := by
        intro M qs m
        induction m with
        | nil => intro _; exact .nil
        | cons a b c d f r ih =>
          intro hz
          refine .cons ?_ b c d f (ih fun m hm => hz m (List.mem_cons_of_mem _ hm))
          have z := wipe_get (σ := σ2) (hz _ List.mem_cons_self)
          rw [hσ, wipe_get (hz _ List.mem_cons_self)] at z
          exact z.symm.trans a
      exact key s2.mu hv
    exact turn _ ps' σ2 H2 _ xb rfl rfl ⟨s2.ex, s2.ow, E2, mu2, s2.nd⟩ fun σ4 H4 ps4 k s4 => ⟨k, ps4, s4⟩
  · subst hl
    exact hn σ' H' ps' ok (s'.base xb)
/-- a for: Im, Id by turns; the mutable lists may be reborn within -/
theorem for_mut {wi : TI} {g : TG} {tb : TS} {es : List PyData} {B : Hp} {D : Ends} {ps : List Addr} {σ : L2.St} {H : Hp} (Im : Nat → ML) (Id : Nat → List (Option PyData)) (Ok : Nat → Prop) (hi : ∀ O, EvI K O wi (Id 0) es) (s : MS K B o (Im 0) ps σ H (Id 0)) (ok0 : Ok 0)
    (ht : ∀ i e, es[i]? = some e → Ok i → ∃ dm vs, GsD K vs g (Id i) e dm ∧ (∀ m ∈ Im i, m.1 ∉ vs) ∧ ∀ B' ps σ2 H2 (D' : Ends), Ex B B' → D'.rt = D.rt → D'.bk = D.nx → MS K B' o (Im i) ps σ2 H2 dm → (∀ σ' H' ps', Ok (i + 1) → MS K B' o (Im (i + 1)) ps' σ' H' (Id (i + 1)) → D'.nx σ' H') → tb D' σ2 H2)
    (hn : ∀ σ' H' ps', Ok es.length → MS K B o (Im es.length) ps' σ' H' (Id es.length) → D.nx σ' H') : tFor wi g tb D σ H :=
  for_mutG Im Id Ok (fun R r => hi (ps ++ o) σ H s.en s.owA R r) s ok0 ht hn
theorem mn_for {wi : TI} {g : TG} {tb : TS} {es : List PyData} (Im : Nat → ML) (Id : Nat → List (Option PyData)) (hi : ∀ O, EvI K O wi (Id 0) es)
    (ht : ∀ i e, es[i]? = some e → ∃ dm vs, GsD K vs g (Id i) e dm ∧ (∀ m ∈ Im i, m.1 ∉ vs) ∧ MvN K o tb (Im i) dm (Im (i + 1)) (Id (i + 1))) : MvN K o (tFor wi g tb) (Im 0) (Id 0) (Im es.length) (Id es.length) := fun B D ps σ H s q =>
  for_mut Im Id (fun _ => True) hi s True.intro (fun i e he _ => by
    obtain ⟨dm, vs, hg, hv, h⟩ := ht i e he
    exact ⟨dm, vs, hg, hv, fun B' ps σ2 H2 D' _ _ _ s2 k => h B' D' ps σ2 H2 s2 fun σ' H' ps' s' => k σ' H' ps' True.intro s'⟩) fun σ' H' ps' _ s' => q σ' H' ps' s'
end
section
variable {P : Program} {w : World} {K : PySem.W.Frag} {mg : Str → Option Value} {base : Heap}
theorem fn_mut {x qual : Str} {st : Stmt} {f : Addr} {fd : FuncData} {N ps : List Str} {k n : Nat} {R : List PyData → PyData → Prop} (F : Fun K x qual st f fd) (S : FnScope N ps (defScope st)) (hn : ps.length = n)
    (hbody : ∀ (cdv : Value) (A : Around) (outer : List Env) (s : Shared) (H : Hp) (E : XK), Room k (A.deeper (envOfC qual (defScope st) s.heap.objs.size f cdv)) →
      ∃ t, PSs (cxOf CX0 P w K mg base N qual (defScope st) f cdv A outer s H E).nox (defBody st) t ∧ ∀ as d, as.length = n → R as d → MvR K [] t [] (startD N as) d) : FnOk P w K mg base CX0 (k + 1) f fd ps (spD K n R) := by
  refine F.ok S (fun vs H Q E h => ?_) (fun cdv A outer s H vs Q E hr h => ?_)
  · obtain ⟨as, d, h, hl, _⟩ := h
    rw [h.length, hl, hn]
  · obtain ⟨as, d, h, hl, hR, q⟩ := h
    obtain ⟨t, hp, hv⟩ := hbody cdv A outer s H E hr
    refine ⟨t, hp, ?_⟩
    have z : start N vs = vs.map some ++ List.replicate (N.length - vs.length) none := rfl
    rw [z, h.length]
    refine hv as d hl hR H _ [] _ H ⟨by rw [hide_nil]; exact Same.refl _, own0, by rw [List.append_nil, hide_nil]; exact en_start _ h, .nil, List.nodup_nil⟩ fun v H' e W x => ?_
    rw [hide_nil] at x e
    exact q v H' e x
end
end Ph
namespace Ph
open PySem PySem.Spec PyProof.Rows L2
section
variable {K : PySem.W.Frag} {o : List Addr} {ds : List (Option PyData)} {ta tb te : TE} {d e : PyData}
theorem mn_to {t : TS} {M M1 M2 : ML} {ds1 ds2 : List (Option PyData)} (h : MvN K o t M ds M1 ds1) (a : M1 = M2) (b : ds1 = ds2) : MvN K o t M ds M2 ds2 := a ▸ b ▸ h
theorem dds_cut {G : Hp} {vs : List V} {es : List PyData} (t : DDs K G vs es) (lo hi : Option Int) : DDs K G (cutV vs lo hi) ((es.drop (HT.sIx es.length 0 lo)).take (HT.sIx es.length es.length hi - HT.sIx es.length 0 lo)) := by
  unfold cutV
  rw [t.length]
  exact (t.drop _).take _
theorem ev_neg {i : Int} (h : EvD K o ta ds (.int i)) : EvD K o (tUn (rU fun i => .int (-i)) ta) ds (.int (-i)) := fun σ H E W Q q =>
  h σ H E W _ fun v H1 e1 W1 x => ⟨i, dd_int x, q _ H1 e1 W1 (.int _)⟩
end
end Ph
namespace Ph
open PySem PySem.Spec PyProof.Rows L2
theorem eqvAll_ints : ∀ (as bs : List Int), PyData.eqvAll (as.map PyData.int) (bs.map PyData.int) = decide (as = bs)
  | [], [] => by simp [PyData.eqvAll]
  | [], b :: bs => by simp [PyData.eqvAll]
  | a :: as, [] => by simp [PyData.eqvAll]
  | a :: as, b :: bs => by
    rw [List.map_cons, List.map_cons]
    show (PyData.eqv (.int a) (.int b) && PyData.eqvAll (as.map PyData.int) (bs.map PyData.int)) = _
    rw [eqvAll_ints as bs]
    have e : PyData.eqv (.int a) (.int b) = decide (a = b) := by
      simp only [PyData.eqv]
      by_cases c : a = b
      · rw [decide_eq_true c]
        exact beq_iff_eq.mpr c
      · rw [decide_eq_false c]
        exact beq_eq_false_iff_ne.mpr c
    rw [e]
    by_cases c : a = b <;> by_cases c2 : as = bs <;> simp [c, c2]
end Ph
namespace Ph
open PySem PySem.Spec PyProof.Rows L2
section
variable {K : PySem.W.Frag} {o : List Addr} {ds : List (Option PyData)} {ta tb td te ti tx : TE} {d e : PyData}
theorem en_len {G : Hp} {σ : List (Option V)} {ds : List (Option PyData)} (E : En K G σ ds) : σ.length = ds.length := by
  induction E with
  | nil => rfl
  | no _ ih => simp [ih]
  | yes _ _ ih => simp [ih]
/-- a value laid anew, not yet bound: at p, put aside with ps -/
structure MV (K : PySem.W.Frag) (B : Hp) (o : List Addr) (M : ML) (ps : List Addr) (σ : L2.St) (H : Hp) (ds : List (Option PyData)) (c : MC) (p : Addr) : Prop where
  s : MS K B o M ps σ H ds
  off : p ∉ ps ++ o
  x : ∃ x, H p = some x ∧ Ob K (hide H ((p :: ps) ++ o)) p x c
  nb : B p = none
  en : En K (hide H ((p :: ps) ++ o)) σ ds
  mu : Mu K (hide H ((p :: ps) ++ o)) H σ B o M ps
/-- the fresh thing at p gets the name in slot i -/
theorem MV.bind {B : Hp} {M : ML} {ps : List Addr} {σ : L2.St} {H : Hp} {c : MC} {p : Addr} (v : MV K B o M ps σ H ds c p) {i : Nat} (hi : ∀ m ∈ M, m.1 ≠ i) (hl : i < ds.length) : MS K B o ((i, c) :: M) (p :: ps) (σ.set i (some (.ref p))) H (ds.set i none) := by
  obtain ⟨x, hx, ob⟩ := v.x
  refine ⟨v.s.ex, v.s.ow, v.en.unset i, .cons ?_ hx ob v.nb (fun m => v.off (List.mem_append_right _ m)) (v.mu.slot hi), List.nodup_cons.mpr ⟨fun m => v.off (List.mem_append_left _ m), v.s.nd⟩⟩
  rw [List.getElem?_set_self (by rw [en_len v.en]; exact hl)]
theorem MS.mv {B : Hp} {M : ML} {ps : List Addr} {σ : L2.St} {H : Hp} {c : MC} {p : Addr} {x : HO} (s : MS K B o M ps σ H ds) (hp : H p = none) (ob : Ob K (hide H (ps ++ o)) p x c) : MV K B o M ps σ (upd H p x) ds c p := by
  have np : p ∉ ps ++ o := ow_new s.owA hp
  have g : Ex (hide H (ps ++ o)) (hide (upd H p x) ((p :: ps) ++ o)) := fun a x z => by
    obtain ⟨c, z⟩ := hide_some z
    have na := ne_of_none z hp
    rw [hide_out fun m => by rcases List.mem_cons.mp m with m | m; exact na m; exact c m, upd_ne na]
    exact z
  refine ⟨s.to (ex_new hp), np, ⟨x, upd_same, ob.mono g⟩, ?_, s.en.mono g, (s.mu.ex (Same.refl _) g).ex (ex_new hp) (Same.refl _)⟩
  cases z : B p with
  | none => rfl
  | some x =>
    have y := (hide_some (s.ex p x z)).2
    rw [hp] at y
    cases y
/-- an expression that lays a mutable anew -/
def EvN (K : PySem.W.Frag) (o : List Addr) (M : ML) (te : TE) (ds : List (Option PyData)) (c : MC) : Prop :=
  ∀ B ps σ H, MS K B o M ps σ H ds → ∀ Q : VK, (∀ p H1 x, MS K B o M ps σ H1 ds → H1 p = none → Ex H H1 → Ob K (hide H1 (ps ++ o)) p x c → Q (.ref p) (upd H1 p x)) → te σ H Q
theorem en_list {M : ML} {es : List PyData} (h : ∀ O, EvF K O te ds es) : EvN K o M te ds (.l es) := fun B ps σ H s Q q =>
  h (ps ++ o) σ H s.en s.owA _ fun p vs H1 H2 e1 W1 hp e2 t => by
    subst e2
    exact q p H1 _ (s.to e1) hp e1 (.l t)
/-- i, j = two new ones -/
theorem mn_par2 {M : ML} {i j : Nat} {c1 : MC} {es : List PyData} (h1 : EvN K o M ta ds c1) (h2 : ∀ O, EvF K O tb ds es) (hi : ∀ m ∈ M, m.1 ≠ i) (hj : ∀ m ∈ M, m.1 ≠ j) (ij : i ≠ j) (li : i < ds.length) (lj : j < ds.length) :
    MvN K o (tPar i j (tCons ta (tCons tb tNil))) M ds ((j, .l es) :: (i, c1) :: M) ((ds.set i none).set j none) := fun B D ps σ H s q =>
  h1 B ps σ H s _ fun p H1 x s1 hp _ ob => by
    have v := s1.mv hp ob
    have s2 := v.bind hi li
    refine h2 ((p :: ps) ++ o) σ _ v.en s2.owA _ fun p2 vs H2 H3 e2 W2 hp2 eq t => ?_
    subst eq
    have s3 := (s2.to e2).mv hp2 (.l t)
    refine ⟨_, _, rfl, q _ _ (p2 :: p :: ps) (s3.bind (fun m hm => ?_) (by rw [List.length_set]; exact lj))⟩
    rcases List.mem_cons.mp hm with rfl | hm
    · exact ij
    · exact hj m hm
end
end Ph
namespace PySem
open Sem (wp)
open AutoSeq1 (wpAny_loadPart')
namespace EnT
section
variable {prog : Program} {w : World} {A : Around} {E : Value → Shared → Prop} {s : Shared} {e it t T : Addr} {i : Nat} {xs : Array Value} {x old : Value} {f : Bool} {oT : Obj}
/-- the next pair, while the pair handed out before is still there -/
theorem step_held {Q : Value → Shared → Prop} (a0 : IsEnumHeld s.heap e it i old T f) (aT : s.heap.get? T = some oT) (Te : T ≠ e) (Ti : T ≠ it) (b0 : s.heap.IsTupleIter it t i) (bt : s.heap.IsTuple t xs) (bx : xs[i]? = some x) (ne : e ≠ it)
    (k : ∀ h', IsEnumHeld h' e it ((i : Int) + 1) old T true → h'.IsTupleIter it t (i + 1) → h'.get? s.heap.objs.size = some { cls := .type "tuple", data := .seq #[.int i s.toks, x] } → h'.objs.size = s.heap.objs.size + 1 →
      (∀ b o, b ≠ e → b ≠ it → s.heap.get? b = some o → h'.get? b = some o) → Q (some (.ref s.heap.objs.size) |>.getD .none) { s with heap := h', toks := s.toks + 1 }) :
    wpAny (model prog w) A (Builtin.«enumerate.__next__» ⟨[.ref e], []⟩) (fun fin s' => ∃ v, fin = .done (.ret v) ∧ Q v s') E s := by
  obtain ⟨hp, gg, dd, tk, os⟩ := s
  show wpAny _ _ (field (.ref e) 2 >>= _) _ _ _
  refine wpAny_bind (wpAny_field a0 rfl (x := .ref it) rfl ?_)
  refine wpAny_bind (wpAny_nextOf_tuple_item b0 bt bx fun h1 b1 c1 => ?_)
  have c1 : Heap.SameBut it hp h1 := c1
  have a1 : IsEnumHeld h1 e it i old T f := (c1.2 e ne).trans a0
  show wpAny _ _ (field (.ref e) 3 >>= _) _ _ ⟨h1, gg, dd, tk, os⟩
  refine wpAny_bind (wpAny_field a1 rfl (x := rawInt i) rfl ?_)
  show wpAny _ _ (field (.ref e) 4 >>= _) _ _ ⟨h1, gg, dd, tk, os⟩
  refine wpAny_bind (wpAny_field a1 rfl (x := .none) rfl ?_)
  show wpAny _ _ (mkInt i >>= _) _ _ ⟨h1, gg, dd, tk, os⟩
  refine wpAny_bind (wpAny_mkInt ?_)
  show wpAny _ _ (setField (.ref e) 3 (rawInt ((i : Int) + 1)) >>= _) _ _ ⟨h1, gg, dd, tk + 1, os⟩
  refine wpAny_bind (wpAny_setField_rec a1 (by simp) fun h2 a2 c2 => ?_)
  have c2 : Heap.SameBut e h1 h2 := c2
  have a2 : IsEnumHeld h2 e it ((i : Int) + 1) old T f := a2
  show wpAny _ _ (setField (.ref e) 4 .none >>= _) _ _ ⟨h2, gg, dd, tk + 1, os⟩
  refine wpAny_bind (wpAny_setField_rec a2 (by simp) fun h3 a3 c3 => ?_)
  have c3 : Heap.SameBut e h2 h3 := c3
  have a3 : IsEnumHeld h3 e it ((i : Int) + 1) old T f := a3
  show wpAny _ _ (newTuple [.int i tk, x] >>= _) _ _ ⟨h3, gg, dd, tk + 1, os⟩
  refine wpAny_bind (wpAny_newTuple ?_)
  have sz : h3.objs.size = hp.objs.size := by rw [c3.1, c2.1, c1.1]
  have el : e < hp.objs.size := Heap.lt_size a0
  have a4 : IsEnumHeld (h3.push { cls := .type "tuple", data := .seq #[.int i tk, x] }) e it ((i : Int) + 1) old T f := Heap.get?_push_of_some _ a3
  have t4 : (h3.push { cls := .type "tuple", data := .seq #[.int i tk, x] }).get? hp.objs.size = some { cls := .type "tuple", data := .seq #[.int i tk, x] } := by
    rw [← sz]
    exact Heap.get?_push_size _ rfl
  have z4 : (h3.push { cls := .type "tuple", data := .seq #[.int i tk, x] }).objs.size = hp.objs.size + 1 := by rw [Heap.size_push, sz]
  have k4 : ∀ b o, b ≠ e → b ≠ it → hp.get? b = some o → (h3.push { cls := .type "tuple", data := .seq #[.int i tk, x] }).get? b = some o := fun b o be bi hb =>
    Heap.get?_push_of_some _ (c3.extBut b o be (c2.extBut b o be (c1.extBut b o bi hb)))
  have i4 : (h3.push { cls := .type "tuple", data := .seq #[.int i tk, x] }).IsTupleIter it t (i + 1) := by
    obtain ⟨o, ho, r⟩ := (b1.extBut c2.extBut (Ne.symm ne)).extBut c3.extBut (Ne.symm ne)
    exact ⟨o, Heap.get?_push_of_some _ ho, r⟩
  generalize h3.push { cls := .type "tuple", data := .seq #[.int i tk, x] } = h4 at a4 t4 z4 k4 i4 ⊢
  show wpAny _ _ (Builtin.SmallTypes.ownedTupleIsFree (.ref e) >>= _) _ _ ⟨h4, gg, dd, tk + 1, os⟩
  rw [sz]
  refine wpAny_bind (wpAny_tupleHeld_enum (s := ⟨h4, gg, dd, tk + 1, os⟩) a4 (k4 T oT Te Ti aT) fun h5 a5 c5 => ?_)
  have c5 : Heap.SameBut e h4 h5 := c5
  simp only [Bool.false_eq_true, if_false]
  refine wpAny_pure ⟨_, rfl, k h5 a5 (i4.extBut c5.extBut (Ne.symm ne)) (c5.extBut _ _ (Nat.ne_of_gt el) t4) ?_ fun b o be bi hb => c5.extBut b o be (k4 b o be bi hb)⟩
  show h5.objs.size = hp.objs.size + 1
  rw [c5.1, z4]
theorem next_held {Q : Option Value → Shared → Prop} (a0 : IsEnumHeld s.heap e it i old T f) (aT : s.heap.get? T = some oT) (Te : T ≠ e) (Ti : T ≠ it) (b0 : s.heap.IsTupleIter it t i) (bt : s.heap.IsTuple t xs) (bx : xs[i]? = some x) (ne : e ≠ it)
    (k : ∀ h', IsEnumHeld h' e it ((i : Int) + 1) old T true → h'.IsTupleIter it t (i + 1) → h'.get? s.heap.objs.size = some { cls := .type "tuple", data := .seq #[.int i s.toks, x] } → h'.objs.size = s.heap.objs.size + 1 →
      (∀ b o, b ≠ e → b ≠ it → s.heap.get? b = some o → h'.get? b = some o) → Q (some (.ref s.heap.objs.size)) { s with heap := h', toks := s.toks + 1 }) :
    wpAny (model prog w) A (pyNext (.ref e)) Q E s := by
  have ty : s.TypeIs (.ref e) "enumerate" := ⟨_, a0, rfl⟩
  unfold pyNext
  refine wpAny_bind (wpAny_attempt (wpAny_callSpecial?_slot (name := Str.ofString "__next__") ty F.slot_enumerate_next ?_))
  refine wpAny_call_entry F.slot_enumerate_next ty F.entry_enumerate_next ?_ (F.args_enumerate_next_1 _)
  exact step_held a0 aT Te Ti b0 bt bx ne fun h' q1 q2 q3 q4 q5 => wpAny_pure (k h' q1 q2 q3 q4 q5)
theorem end_held {Q : Option Value → Shared → Prop} (hh : A.handled = none) (a0 : IsEnumHeld s.heap e it i old T f) (b0 : s.heap.IsTupleIter it t i) (bt : s.heap.IsTuple t xs) (bx : xs[i]? = none)
    (k : ∀ h', Heap.ExtBut it s.heap h' → Q none { s with heap := h' }) : wpAny (model prog w) A (pyNext (.ref e)) Q E s := by
  have ty : s.TypeIs (.ref e) "enumerate" := ⟨_, a0, rfl⟩
  unfold pyNext
  refine wpAny_bind (wpAny_attempt (wpAny_callSpecial?_slot (name := Str.ofString "__next__") ty F.slot_enumerate_next ?_))
  refine wpAny_call_entry F.slot_enumerate_next ty F.entry_enumerate_next ?_ (F.args_enumerate_next_1 _)
  show wpAny _ _ (field (.ref e) 2 >>= _) _ _ _
  refine wpAny_bind (wpAny_field a0 rfl (x := .ref it) rfl ?_)
  refine wpAny_bind (wpAny_nextOf_tuple_end hh b0 bt bx fun h' u ex cu => ?_)
  obtain ⟨o, ho, hc⟩ := cu
  refine wpAny_bind (wpAny_isInstance (T := "StopIteration") (b := true) ⟨o, ho, hc⟩ isSubtype_stop ?_)
  exact wpAny_pure (k _ ex)
theorem off1 {a b base : Nat} (l : a < base) (h : base ≤ b) : b ≠ a := Nat.ne_of_gt (Nat.lt_of_lt_of_le l h)
/-- where the walk stands -/
structure ES (h : Heap) (e it t : Addr) (xs : Array Value) (i : Nat) : Prop where
  hit : h.IsTupleIter it t i
  ht : h.IsTuple t xs
  he : (∃ old, IsEnum h e it i old) ∨ ∃ old T f oT, IsEnumHeld h e it i old T f ∧ h.get? T = some oT ∧ T ≠ e ∧ T ≠ it
theorem ES.frame {h h' : Heap} (w : ES h e it t xs i) (k : ∀ b o, h.get? b = some o → h'.get? b = some o) : ES h' e it t xs i := by
  obtain ⟨a, b, c⟩ := w
  refine ⟨a.at fun o x => k _ o x, b.at fun o x => k _ o x, ?_⟩
  rcases c with ⟨old, c⟩ | ⟨old, T, f, oT, c, d, r1, r2⟩
  · exact .inl ⟨old, k _ _ c⟩
  · exact .inr ⟨old, T, f, oT, k _ _ c, k _ _ d, r1, r2⟩
/-- the pairs handed out so far -/
structure Rw (h : Heap) (base : Nat) (xs : Array Value) (i : Nat) (acc : Array Value) (Ts : List Addr) : Prop where
  eq : acc.toList = Ts.map Value.ref
  len : Ts.length = i
  nd : Ts.Nodup
  ge : ∀ T ∈ Ts, base ≤ T
  at_ : ∀ j T, Ts[j]? = some T → ∃ tk x, xs[j]? = some x ∧ h.get? T = some { cls := .type "tuple", data := .seq #[.int (j : Nat) tk, x] }
theorem Rw.frame {h h' : Heap} {base : Nat} {acc : Array Value} {Ts : List Addr} (r : Rw h base xs i acc Ts) (k : ∀ b o, base ≤ b → h.get? b = some o → h'.get? b = some o) : Rw h' base xs i acc Ts :=
  ⟨r.eq, r.len, r.nd, r.ge, fun j T hT => by
    obtain ⟨tk, x, q1, q2⟩ := r.at_ j T hT
    exact ⟨tk, x, q1, k _ _ (r.ge T (List.mem_of_getElem? hT)) q2⟩⟩
theorem Rw.add {h h' : Heap} {base : Nat} {acc : Array Value} {Ts : List Addr} {tk : Tok} (r : Rw h base xs i acc Ts) (k : ∀ b o, base ≤ b → h.get? b = some o → h'.get? b = some o) (hb : base ≤ h.objs.size) (hx : xs[i]? = some x)
    (ht : h'.get? h.objs.size = some { cls := .type "tuple", data := .seq #[.int i tk, x] }) : Rw h' base xs (i + 1) (acc.push (.ref h.objs.size)) (Ts ++ [h.objs.size]) := by
  have q := r.frame k
  refine ⟨by rw [Array.toList_push, r.eq, List.map_append]; rfl, by rw [List.length_append, r.len]; rfl, ?_, fun T hT => ?_, fun j T hT => ?_⟩
  · refine List.nodup_append.mpr ⟨r.nd, by simp, fun a ha b hb2 => ?_⟩
    have eb : b = h.objs.size := by simpa using hb2
    obtain ⟨j, hj⟩ := List.getElem?_of_mem ha
    obtain ⟨tk, y, _, e2⟩ := r.at_ j a hj
    intro z
    rw [z, eb] at e2
    exact Nat.lt_irrefl _ (Heap.lt_size e2)
  · rcases List.mem_append.mp hT with hT | hT
    · exact r.ge T hT
    · have eb : T = h.objs.size := by simpa using hT
      rw [eb]
      exact hb
  · by_cases c : j < Ts.length
    · rw [List.getElem?_append_left c] at hT
      exact q.at_ j T hT
    · rw [List.getElem?_append_right (by omega)] at hT
      have ej : j - Ts.length = 0 := by
        cases w : j - Ts.length with
        | zero => rfl
        | succ n => rw [w] at hT; simp at hT
      rw [ej] at hT
      have eT : h.objs.size = T := Option.some.inj hT
      subst eT
      have e3 : j = i := by rw [← r.len]; omega
      subst e3
      exact ⟨tk, x, hx, ht⟩
/-- one turn of the walk -/
theorem turn {Q : Option Value → Shared → Prop} (hh : A.handled = none) (st : ES s.heap e it t xs i) (bx : xs[i]? = some x) (ne : e ≠ it) (te : t ≠ e) (tit : t ≠ it)
    (k : ∀ h' tk tk', ES h' e it t xs (i + 1) → h'.get? s.heap.objs.size = some { cls := .type "tuple", data := .seq #[.int i tk, x] } →
      (∀ b o, b ≠ e → b ≠ it → s.heap.get? b = some o → h'.get? b = some o) → Q (some (.ref s.heap.objs.size)) { s with heap := h', toks := tk' }) : wpAny (model prog w) A (pyNext (.ref e)) Q E s := by
  have ec : ((i + 1 : Nat) : Int) = (i : Int) + 1 := by omega
  have nit : s.heap.objs.size ≠ it := let ⟨_, y, _⟩ := st.hit; Nat.ne_of_gt (Heap.lt_size y)
  have i1 : i < xs.size := (Array.getElem?_eq_some_iff.mp bx).1
  rcases st.he with ⟨old, he⟩ | ⟨old, T, f, oT, he, hT, r1, r2⟩
  · have nse : s.heap.objs.size ≠ e := Nat.ne_of_gt (Heap.lt_size he)
    refine wpAny_pyNext_enum_itemD (Draws.tuple (A := A.in1) hh it t tit xs) he ⟨st.hit, st.ht⟩ i1 ne (by simp [ne, Ne.symm te]) fun y h' tk hy ho st' hT hsz hk => ?_
    have ey : y = x := by rw [hy] at bx; exact Option.some.inj bx
    subst ey
    exact k h' tk _ ⟨st'.1, st'.2, .inr ⟨_, s.heap.objs.size, false, _, by rw [ec]; exact ho, hT, nse, nit⟩⟩ hT hk
  · refine next_held he hT r1 r2 st.hit st.ht bx ne fun h' ho hit' hT' hsz hk => ?_
    exact k h' _ _ ⟨hit', st.ht.at fun o y => hk _ o te tit y, .inr ⟨old, T, true, oT, by rw [ec]; exact ho, hk _ _ r1 r2 hT, r1, r2⟩⟩ hT' hk
theorem last {Q : Option Value → Shared → Prop} (hh : A.handled = none) (st : ES s.heap e it t xs xs.size) (tit : t ≠ it) (k : ∀ h', Heap.ExtBut it s.heap h' → Q none { s with heap := h' }) : wpAny (model prog w) A (pyNext (.ref e)) Q E s := by
  have bx : xs[xs.size]? = none := Array.getElem?_eq_none (Nat.le_refl _)
  rcases st.he with ⟨old, he⟩ | ⟨old, T, f, oT, he, hT, r1, r2⟩
  · exact wpAny_pyNext_enum_endD (Draws.tuple (A := A.in1) hh it t tit xs) he ⟨st.hit, st.ht⟩ k
  · exact end_held hh he st.hit st.ht bx k
end
/-- the list S takes all pairs that are left -/
theorem fill {prog : Program} {w : World} {A : Around} {R : Result → Shared → Prop} {e it t S : Addr} {xs : Array Value} {res : Value} {base : Nat} (hh : A.handled = none) (ne : e ≠ it) (te : t ≠ e) (tit : t ≠ it) (Se : S ≠ e) (Sit : S ≠ it) (St : S ≠ t) (hl : xs.size ≤ sizeLine) (be : e < base) (bit : it < base) (bS : S < base) :
    ∀ (m i : Nat) (s : Shared) (acc : Array Value) (c : Nat) (Ts : List Addr), xs.size - i = m → i ≤ xs.size → base ≤ s.heap.objs.size → ES s.heap e it t xs i → s.heap.get? S = some { cls := .type "list", dict := none, data := .seq acc c, slots := #[] } → Rw s.heap base xs i acc Ts →
    (∀ h' tk acc' c' Ts', h'.get? S = some { cls := .type "list", dict := none, data := .seq acc' c', slots := #[] } → Rw h' base xs xs.size acc' Ts' → (∀ b o, b ≠ e → b ≠ it → b ≠ S → s.heap.get? b = some o → h'.get? b = some o) → R (.ok (.ret res)) { s with heap := h', toks := tk }) →
    codeAny (model prog w) A (.builtin "list.extend.loop" ⟨[.ref S, .ref e, res], []⟩) R s := by
  intro m
  induction m with
  | zero =>
    intro i s acc c Ts hm hi hb st hS rw hR
    have ei : i = xs.size := by omega
    subst ei
    refine codeAny_builtin F.entry_extend_loop ?_
    rw [Around.under_plainId F.plain_extend_loop _]
    show wpAny _ A.in1 (pyNext (.ref e) >>= _) _ _ s
    refine wpAny_bind (last (A := A.in1) hh st tit fun h' ex => ?_)
    refine wpAny_pure (hR h' s.toks acc c Ts (ex _ _ Sit hS) (rw.frame fun b o hb y => ex b o (off1 bit hb) y) fun b o _ b2 _ y => ex b o b2 y)
  | succ m ih =>
    intro i s acc c Ts hm hi hb st hS rw hR
    have i1 : i < xs.size := by omega
    refine codeAny_builtin F.entry_extend_loop ?_
    rw [Around.under_plainId F.plain_extend_loop _]
    show wpAny _ A.in1 (pyNext (.ref e) >>= _) _ _ s
    refine wpAny_bind (turn (A := A.in1) hh st (Array.getElem?_eq_getElem i1) ne te tit fun h' tk tk' st' hT hk => ?_)
    have hS' := hk S _ Se Sit hS
    have al : acc.size = i := by
      have z := congrArg List.length rw.eq
      rw [List.length_map, rw.len, Array.length_toList] at z
      exact z
    show wpAny _ A.in1 (updateSeq S (·.push (.ref s.heap.objs.size)) >>= _) _ _ _
    have off : ∀ b o, b ≠ S → h'.get? b = some o → (h'.update S (Obj.mapSeq (·.push (Value.ref s.heap.objs.size)))).get? b = some o := fun b o n y => (Heap.get?_update_other _ _ (Ne.symm n)).trans y
    have st2 : ES (h'.update S (Obj.mapSeq (·.push (Value.ref s.heap.objs.size)))) e it t xs (i + 1) := by
      obtain ⟨q1, q2, q3⟩ := st'
      refine ⟨q1.at fun o y => off _ o (Ne.symm Sit) y, q2.at fun o y => off _ o (Ne.symm St) y, ?_⟩
      rcases q3 with ⟨old, q3⟩ | ⟨old, T, f, oT, q3, q4, r1, r2⟩
      · exact .inl ⟨old, off _ _ (Ne.symm Se) q3⟩
      · by_cases cT : T = S
        · subst cT
          exact .inr ⟨old, T, f, _, off _ _ (Ne.symm Se) q3, Heap.get?_update_self _ hS' rfl, r1, r2⟩
        · exact .inr ⟨old, T, f, oT, off _ _ (Ne.symm Se) q3, off _ _ cT q4, r1, r2⟩
    have szl : s.heap.objs.size < h'.objs.size := Heap.lt_size hT
    refine wpAny_bind (wpAny_updateSeq hS' rfl (wpAny_pure ⟨plainId_quiet F.plain_extend_loop _, ih (i + 1) _ (acc.push (.ref s.heap.objs.size)) _ (Ts ++ [s.heap.objs.size]) (by omega) i1 (by show base ≤ (h'.update S _).objs.size; rw [Heap.size_update]; exact Nat.le_trans hb (Nat.le_of_lt szl)) st2 (Heap.get?_update_self _ hS' rfl)
      (rw.add (fun b o hb y => off b o (off1 bS hb) (hk b o (off1 be hb) (off1 bit hb) y)) hb (Array.getElem?_eq_getElem i1) (off _ _ (off1 bS hb) hT)) fun h2 tk2 acc' c' Ts' q1 q2 q3 => ?_⟩) (by rw [al]; omega) (by show (acc.push _).size ≤ sizeLine + 1; rw [Array.size_push, al]; omega))
    exact hR h2 tk2 acc' c' Ts' q1 q2 fun b o n1 n2 n3 y => q3 b o n1 n2 n3 (off b o n3 (hk b o n1 n2 y))
end EnT
end PySem
namespace PySem
open Sem (wp)
open AutoSeq1 (wpAny_loadPart')
namespace EnT
section
variable {prog : Program} {w : World} {A : Around} {E : Value → Shared → Prop} {s : Shared} {R : Result → Shared → Prop} {e it t : Addr} {xs : Array Value}
theorem ES.ty {i : Nat} (st : ES s.heap e it t xs i) : s.TypeIs (.ref e) "enumerate" := by
  rcases st.he with ⟨old, he⟩ | ⟨old, T, f, oT, he, _⟩
  · exact ⟨_, he, rfl⟩
  · exact ⟨_, he, rfl⟩
theorem Rw.up {h : Heap} {b b' i : Nat} {acc : Array Value} {Ts : List Addr} (r : Rw h b xs i acc Ts) (l : b' ≤ b) : Rw h b' xs i acc Ts := ⟨r.eq, r.len, r.nd, fun T hT => Nat.le_trans l (r.ge T hT), r.at_⟩
theorem ES.lt {i : Nat} (st : ES s.heap e it t xs i) : e < s.heap.objs.size ∧ it < s.heap.objs.size ∧ t < s.heap.objs.size := by
  refine ⟨?_, ?_, ?_⟩
  · rcases st.he with ⟨old, he⟩ | ⟨old, T, f, oT, he, _⟩
    · exact Heap.lt_size he
    · exact Heap.lt_size he
  · obtain ⟨o, ho, _⟩ := st.hit
    exact Heap.lt_size ho
  · obtain ⟨o, ho, _⟩ := st.ht
    exact Heap.lt_size ho
end
end EnT
end PySem
namespace PySem
open Sem (wp)
open AutoSeq1 (wpAny_loadPart')
namespace EnT
theorem new1 {v : Value} {o : Obj} {H : Heap → Prop} (B : Begins v o H) :
    Meets (Builtin.«enumerate.__new__» ⟨[.type "enumerate", v], []⟩) (fun _ R s => H s.heap ∧
      R (.ok (.ret (.ref (s.heap.push o).objs.size))) { s with heap := (s.heap.push o).push { cls := .type "enumerate", data := .fields #[.none, .bool false, .ref s.heap.objs.size, rawInt 0, .none, .none] } }) :=
  .of_wp fun prog w A R s h => by
    obtain ⟨hp, g, d, tk, os⟩ := s
    obtain ⟨q0, h⟩ := h
    have g1 := sub_enumerate
    have q1 : ∀ {A' : Around} {E : Value → Shared → Prop} {Q : Value → Shared → Prop}, Q (.ref hp.objs.size) ⟨hp.push o, g, d, tk, os⟩ → wpAny (model prog w) A' (pyIter v) Q E ⟨hp, g, d, tk, os⟩ :=
      fun q => B.iter prog w _ _ ⟨hp, g, d, tk, os⟩ _ q0 q
    wp_walk using q1
    refine wpAny_stack_any fun st => wpAny_pure ?_
    split
    · rename_i c _ _ _ _ _
      cases (c == Value.type "enumerate")
      · wp_walk using q1
        exact ⟨_, rfl, h⟩
      · wp_walk using q1
        exact ⟨_, rfl, h⟩
    · wp_walk using q1
      exact ⟨_, rfl, h⟩
end EnT
end PySem
namespace Ph
open PySem PySem.Spec PyProof.Rows L2
end Ph
namespace Ph
open PySem PySem.Spec PyProof.Rows L2
end Ph
namespace PySem
namespace EnT
theorem call_enP {prog : Program} {w : World} {A : Around} {E : Value → Shared → Prop} {s : Shared} {t : Addr} {xs : Array Value} {Q : Value → Shared → Prop} (bt : s.heap.IsTuple t xs)
    (k : ∀ h', IsEnum h' (s.heap.objs.size + 1) s.heap.objs.size (0 : Nat) .none → h'.IsTupleIter s.heap.objs.size t 0 → (∀ b o, s.heap.get? b = some o → h'.get? b = some o) → Q (.ref (s.heap.objs.size + 1)) { s with heap := h' }) :
    wpAny (model prog w) A (call (.type "enumerate") [.ref t]) Q E s := by
  refine callType_new F.called_enumerate (by decide) (F.typeCall_enumerate_1 _) (F.newCall_enumerate_1 _) (fun obj => F.args_object_init_2 obj _) F.entry_enumerate_new (new1 (begins_tuple t xs)) ⟨bt, ?_⟩
  have z : (s.heap.push { cls := .type "tuple_iterator", data := .fields #[.ref t, .int 0 0] }).objs.size = s.heap.objs.size + 1 := Heap.size_push ..
  show _ ∧ _
  rw [z]
  have he : IsEnum ((s.heap.push { cls := .type "tuple_iterator", data := .fields #[.ref t, .int 0 0] }).push { cls := .type "enumerate", data := .fields #[.none, .bool false, .ref s.heap.objs.size, rawInt 0, .none, .none] }) (s.heap.objs.size + 1) s.heap.objs.size (0 : Nat) .none := by
    have q := Heap.get?_push_size (s.heap.push { cls := .type "tuple_iterator", data := .fields #[.ref t, .int 0 0] }) (o := { cls := .type "enumerate", data := .fields #[.none, .bool false, .ref s.heap.objs.size, rawInt 0, .none, .none] }) rfl
    rw [z] at q
    exact q
  have old : ∀ b o, s.heap.get? b = some o → ((s.heap.push { cls := .type "tuple_iterator", data := .fields #[.ref t, .int 0 0] }).push { cls := .type "enumerate", data := .fields #[.none, .bool false, .ref s.heap.objs.size, rawInt 0, .none, .none] }).get? b = some o := fun b o y => Heap.get?_push_of_some _ (Heap.get?_push_of_some _ y)
  exact ⟨⟨_, he, rfl⟩, k _ he ⟨_, Heap.get?_push_of_some _ (Heap.get?_push_size _ rfl), rfl, rfl⟩ old⟩
end EnT
end PySem
namespace Ph
open PySem PySem.Spec PyProof.Rows L2
def IteT (K : PySem.W.Frag) (a : Addr) (n : Nat) : It :=
  ⟨fun i H => ∃ (xs : List V) (x : V), SqT K H a xs ∧ xs[i]? = some x ∧ xs.length = n, fun i H v H' => ∃ T x, v = .ref T ∧ H T = none ∧ H' = upd H T (.tup [.int (i : Nat), x]) ∧ ∀ xs, SqT K H a xs → xs[i]? = some x, fun i H => ∃ xs : List V, SqT K H a xs ∧ xs.length = n ∧ n ≤ i⟩
theorem turn_enumT {P : Program} {w : World} {K : PySem.W.Frag} {elts : List Expr} {kk : Nat} {tpos : Pos} (a e it : Addr) (n : Nat) :
    Turn P w K (.Tuple elts kk tpos) (IteT K a n) [e, it] e (fun i h => (∃ old, IsEnum h e it ((i : Nat) : Int) old) ∧ h.IsTupleIter it a i ∧ e ≠ it ∧ a ≠ e ∧ a ≠ it ∧ i ≤ n) where
  mem := by simp
  obj := fun i h st b hb => by
    obtain ⟨⟨old, he⟩, ⟨o, ho, hc, hd⟩, _⟩ := st
    rcases (by simpa using hb : b = e ∨ b = it) with rfl | rfl
    · exact ⟨_, he, fun v q => nomatch q⟩
    · exact ⟨o, ho, fun v q => by rw [hd] at q; cases q⟩
  keep := fun i h h' st k => let ⟨⟨old, he⟩, hi, r⟩ := st; ⟨⟨old, k e (by simp) _ he⟩, hi.at fun o q => k it (by simp) o q, r⟩
  item := by
    intro X hP hw hK hc i pins s σ H E I hf st hg
    subst hP hw hK
    obtain ⟨⟨old, he⟩, hit, ne, nae, nai, hn⟩ := st
    obtain ⟨xs, x, hq, hx, hxn⟩ := hg
    obtain ⟨its, rv, tp, hz⟩ := I.tuple hq
    obtain ⟨u, hu, ru⟩ := rv.get hx
    have le : e < s.heap.objs.size := Heap.lt_size he
    have li : it < s.heap.objs.size := by obtain ⟨_, q, _⟩ := hit; exact Heap.lt_size q
    have hu2 : its.toArray[i]? = some u := by simpa using hu
    have hlt : i < its.toArray.size := (Array.getElem?_eq_some_iff.mp hu2).1
    refine wpAny_pyNext_enum_itemD (Draws.tuple (prog := X.prog) (w := X.w) (A := X.A.in1) (I.ok.hd hc) it a nai its.toArray) he ⟨hit, tp⟩ hlt ne (by simp [ne, Ne.symm nae]) fun y h' tk py ho st' hT hsz hk => ?_
    obtain rfl : y = u := Option.some.inj (py.symm.trans hu2)
    refine ⟨_, rfl, wpAny_letOwnedTupleGo_enum (s := { s with heap := h', toks := tk + 1 }) ho fun h'' he' sb => ?_⟩
    have hT2 : h''.get? s.heap.objs.size = some { cls := .type "tuple", data := .seq #[.int i tk, y] } := (sb.2 _ (Nat.ne_of_gt le)).trans hT
    have new : ObjOk X.prog X.w (upd H s.heap.objs.size (.tup [.int (i : Nat), x])) h'' s.heap.objs.size (.tup [.int (i : Nat), x]) :=
      ⟨by show 2 ≤ sizeLine; decide, [.int i tk, y], .cons ⟨_, rfl⟩ (.cons ru .nil), ⟨_, hT2, rfl, _, rfl⟩⟩
    have I1 : Inv X pins σ (upd H s.heap.objs.size (.tup [.int (i : Nat), x])) { s with heap := h'', toks := tk + 1 } :=
      I.turnedNew (ch := [e, it]) (fun b ob hb q => (sb.2 b (fun z => hb (by simp [z]))).trans (hk b ob (fun z => hb (by simp [z])) (fun z => hb (by simp [z])) q)) hf (Nat.le_refl _) new
    refine ⟨.ref s.heap.objs.size, _, I1, rfl, ⟨_, x, rfl, I.hok.fresh (Nat.le_refl _), rfl, fun ys hy => by rw [I.tuple_inj hy hq]; exact hx⟩, ⟨⟨y, ?_⟩, st'.1.at fun o q => (sb.2 it (Ne.symm ne)).trans q, ne, nae, nai, by have := (List.getElem?_eq_some_iff.mp hx).1; omega⟩, fun b hb => ?_⟩
    · rw [show ((i + 1 : Nat) : Int) = (i : Int) + 1 by omega]
      exact he'
    · have lb : b < s.heap.objs.size := by
        rcases (by simpa using hb : b = e ∨ b = it) with rfl | rfl
        · exact le
        · exact li
      rw [upd_ne (Nat.ne_of_lt lb)]
      exact (hf b hb).1
  done := by
    intro X hP hw hK hc i pins s σ H E I hf st hg
    subst hP hw hK
    obtain ⟨⟨old, he⟩, hit, ne, nae, nai, hn⟩ := st
    obtain ⟨xs, hq, hxn, hx⟩ := hg
    obtain ⟨its, rv, tp, hz⟩ := I.tuple hq
    obtain ⟨f0, f1, f2, f3, f4, f5⟩ := hf it (by simp)
    have hl := rv.length
    have ei : i = its.toArray.size := by rw [List.size_toArray]; omega
    subst ei
    exact wpAny_pyNext_enum_endD (Draws.tuple (prog := X.prog) (w := X.w) (A := X.A.in1) (I.ok.hd hc) it a nai its.toArray) he ⟨hit, tp⟩ fun h' eb => ⟨rfl, I.turned (t' := s.toks) (fun b o hb q => eb b o hb q) f0 f1 f3 f4 f5⟩
  self := fun A i s Q E st h => let ⟨⟨_, he⟩, _⟩ := st; wpAny_pyIter_enum he h
def iEnumT (K : PySem.W.Frag) (ta : TA) : TI := fun σ H R => ta σ H fun vs H1 => ∃ a xs, vs = [.ref a] ∧ SqT K H1 a xs ∧ R (IteT K a xs.length) H1
theorem pi_enumT {X : Cx} {e : Expr} {ta : TA} {p pos tpos : Pos} {elts : List Expr} {kk : Nat} (hg : Gl X "enumerate") (hm : X.mg "enumerate" = none) (ha : PA X [e] ta) (hs : starEach [e] X.env = [(false, eval e X.env)] := by rfl) :
    PI X (.Tuple elts kk tpos) (.Call (.Name "enumerate" p) [e] [] pos) (iEnumT X.K ta) := by
  refine ⟨fun pins s σ H R I h => ?_⟩
  refine Call_ (ld_blt I hg hm PyProof.Rows.Boot.«enumerate» (PyProof.Rows.callWith_type1 (thn (ha.run pos pins s σ H _ I h) fun us s1 ⟨vs, H1, I1, r1, a, xs, ex, hq, q⟩ => ?_) hs rfl))
  subst ex
  cases r1 with
  | cons r rr =>
    cases rr
    cases r
    obtain ⟨its, rv, tp, hz⟩ := I1.tuple hq
    refine EnT.call_enP (xs := its.toArray) tp fun h' he hit hk => ?_
    refine wpAny_pyIter_enum he ?_
    have I2 : Inv X pins σ H1 { s1 with heap := h' } := I1.kept (t' := s1.toks) hk
    have la : a < s1.heap.objs.size := by obtain ⟨o, ho, _⟩ := tp; exact Heap.lt_size ho
    refine ⟨s1.heap.objs.size + 1, [s1.heap.objs.size + 1, s1.heap.objs.size], _, _, H1, rfl, I2, turn_enumT a (s1.heap.objs.size + 1) s1.heap.objs.size xs.length, ⟨⟨_, he⟩, hit, Nat.succ_ne_self _, Nat.ne_of_lt (Nat.lt_succ_of_lt la), Nat.ne_of_lt la, Nat.zero_le _⟩, fun b hb => ?_, q⟩
    have le : s1.heap.objs.size ≤ b := by
      rcases (by simpa using hb : b = s1.heap.objs.size + 1 ∨ b = s1.heap.objs.size) with rfl | rfl
      · exact Nat.le_succ _
      · exact Nat.le_refl _
    exact I1.fpOk le (I1.hok.fresh le)
section
variable {K : PySem.W.Frag} {o : List Addr} {ds : List (Option PyData)} {ta : TE} {es : List PyData}
theorem it_enumT {G : Hp} {a : Addr} {xs : List V} (h : SqT K G a xs) (t : DDs K G xs es) : ItD K G (IteT K a xs.length) (enumD es) := fun H o g W i => by
  have q1 := ex_sqT hide_ex (ex_sqT g h)
  refine ⟨fun e he => ?_, fun hi => ?_⟩
  · unfold enumD at he
    rw [List.getElem?_mapIdx] at he
    cases z : es[i]? with
    | none => rw [z] at he; cases he
    | some a' =>
      rw [z] at he
      have he := Option.some.inj he
      obtain ⟨v, hv, c⟩ := t.at z
      refine ⟨⟨xs, v, q1, hv, rfl⟩, fun x H' y => ?_⟩
      obtain ⟨T, x1, rfl, nT, rfl, f1⟩ := y
      have e1 := f1 xs q1
      rw [hv] at e1
      cases e1
      rw [← he]
      exact pairUp W nT (.int _) (c.mono g)
  · unfold enumD at hi
    rw [List.length_mapIdx] at hi
    exact ⟨xs, q1, rfl, by rw [t.length]; exact hi⟩
theorem ei_enumT (h : EvD K o ta ds (.tuple es)) : EvI K o (iEnumT K (tCons ta tNil)) ds (enumD es) := fun σ H E W R r =>
  h σ H E W _ fun v H2 e2 W2 x => by
    obtain ⟨a, xs, rfl, q, t⟩ := dd_tup x
    exact ⟨a, xs, rfl, ex_sqT hide_ex q, r _ H2 e2 W2 (it_enumT q t)⟩
end
end Ph
namespace Ph
open PySem PySem.Spec PyProof.Rows L2
def maxI : List Int → Int
  | [] => 0
  | n :: ns => ns.foldl (fun a y => if a < y then y else a) n
def rMaxT (K : PySem.W.Frag) : List V → Hp → VK → Prop := fun vs H Q => ∃ (a : Addr) (ns : List Int), vs = [.ref a] ∧ SqT K H a (ns.map V.int) ∧ 0 < ns.length ∧ Q (.int (maxI ns)) H
theorem call_maxT {X : Cx} (hc : X.calm = true) (hu : X.A.units + 64 < cLine) : CallR X (.builtin "max") (rMaxT X.K) := by
  intro pins s σ H vs us Q I r h
  obtain ⟨a, ns, rfl, hs, hne, q⟩ := h
  obtain ⟨its, rv, tp, hz⟩ := I.tuple hs
  rw [Vals.ref1 r]
  cases ns with
  | nil => cases hne
  | cons n ns =>
    refine PySem.W.max_tuple_datum (α := Int) (vs := its.toArray) (x := n) (xs := ns) (I.ok.hd hc) tp (by simpa using PySem.W.HoldAll.of_ints rv.ints) (Nat.lt_of_le_of_lt (by show X.A.units + 1 + 0 ≤ X.A.units + 64; omega) hu) fun i v h' tk hv hh k => ?_
    have e : PySem.W.maxOf n ns = maxI (n :: ns) := by
      unfold PySem.W.maxOf maxI
      congr 1
      funext x y
      show (if decide (x < y) = true then y else x) = if x < y then y else x
      by_cases c : x < y
      · rw [decide_eq_true c, if_pos rfl, if_pos c]
      · rw [decide_eq_false c, if_neg Bool.false_ne_true, if_neg c]
    rw [e] at hh
    obtain ⟨as, rd⟩ := hh
    have ev : ∃ t, v = .int (maxI (n :: ns)) t := by
      cases rd with
      | int _ t => exact ⟨t, rfl⟩
    obtain ⟨t, rfl⟩ := ev
    exact ⟨.int _, H, I.kept (t' := tk) k, ⟨_, rfl⟩, q⟩
def tLenSetT (K : PySem.W.Frag) (ta : TE) : TE := fun σ H Q => ta σ H fun x H1 => ∃ (l : Addr) (ns : List Int), x = .ref l ∧ SqT K H1 l (ns.map V.int) ∧ ns.length ≤ 1000 ∧ ∀ L : List Int, L.Nodup → (∀ k, k ∈ L ↔ k ∈ ns) → Q (.int (L.length : Nat)) H1
theorem pe_lenSetT {X : Cx} {a : Expr} {ta : TE} {p p2 q pos : Pos} (hg : Gl X "len") (hm : X.mg "len" = none) (hg2 : Gl X "set") (hm2 : X.mg "set" = none) (ha : PE X a ta) (hc : X.calm = true := by rfl)
    (na : starEach [a] X.env = (false, eval a X.env) :: starEach [] X.env := by rfl) : PE X (.Call (.Name "len" p) [.Call (.Name "set" p2) [a] [] q] [] pos) (tLenSetT X.K ta) := by
  refine ⟨fun pins s σ H Q I h => ?_⟩
  refine Call_ (ld_blt I hg hm boot_len (PyProof.Rows.callWith_builtin1 (PyProof.Rows.args_cons ?_ rfl) rfl rfl))
  refine Call_ (ld_blt I hg2 hm2 boot_set (PyProof.Rows.callWith_type1 (PyProof.Rows.args_cons (thn (ha.run pins s σ H _ I h) fun v s1 ⟨x, H1, I1, r1, l, ns, ex, hq, hl, q1⟩ => PyProof.Rows.args_nil ?_) na) na rfl))
  subst ex
  cases r1
  obtain ⟨its, rv, tp, hz⟩ := I1.tuple hq
  refine call_set_tupI ns (I1.ok.hd hc) (show s1.heap.IsTuple l its.toArray from tp) (by simpa using rv.ints) (by unfold scanBound; omega) fun h' tk c R hcn k => ?_
  refine PyProof.Rows.args_nil ?_
  obtain ⟨o, es, ep, t, ho, hex, hd, hgood, hnd, hmem, hsz, hf, hn, _⟩ := R
  have I2 : Inv X pins σ H1 { s1 with heap := h', toks := tk } := I1.kept k
  have mem : ∀ k, k ∈ es.toList.map keyOf ↔ k ∈ ns := fun k => by
    rw [← hmem k]
    exact decide_eq_true_iff
  have q2 := q1 (es.toList.map keyOf) hnd mem
  rw [List.length_map, Array.length_toList] at q2
  exact call_len_set ho hex hd hf (by omega) ⟨.int es.size, H1, I2.tok _, ⟨_, rfl⟩, q2⟩
section
variable {K : PySem.W.Frag} {o : List Addr} {ds : List (Option PyData)} {ta : TE} {ns : List Int}
theorem cb_maxT (h : 0 < ns.length) : CbD K o (rMaxT K) [.tuple (ns.map PyData.int)] (.int (maxI ns)) := fun xs H W hx Q q => by
  cases hx with
  | cons hx t =>
    cases t
    obtain ⟨a, ys, rfl, hq, t⟩ := dd_tup hx
    rw [dds_ints t] at hq
    exact ⟨a, ns, rfl, ex_sqT hide_ex hq, h, q _ H (Same.refl H) W (.int _)⟩
def dedI : List Int → List Int
  | [] => []
  | n :: ns => if n ∈ ns then dedI ns else n :: dedI ns
theorem mem_dedI (k : Int) : ∀ ns : List Int, k ∈ dedI ns ↔ k ∈ ns
  | [] => Iff.rfl
  | n :: ns => by
    unfold dedI
    by_cases c : n ∈ ns
    · rw [if_pos c, mem_dedI k ns, List.mem_cons]
      exact ⟨fun h => .inr h, fun h => h.elim (fun e => by rw [e]; exact c) id⟩
    · rw [if_neg c, List.mem_cons, List.mem_cons, mem_dedI k ns]
theorem nodup_dedI : ∀ ns : List Int, (dedI ns).Nodup
  | [] => List.nodup_nil
  | n :: ns => by
    unfold dedI
    by_cases c : n ∈ ns
    · rw [if_pos c]
      exact nodup_dedI ns
    · rw [if_neg c]
      exact List.nodup_cons.mpr ⟨fun h => c ((mem_dedI n ns).mp h), nodup_dedI ns⟩
theorem len_same {L M : List Int} (h1 : L.Nodup) (h2 : M.Nodup) (h : ∀ k, k ∈ L ↔ k ∈ M) : L.length = M.length :=
  ((List.perm_ext_iff_of_nodup h1 h2).mpr h).length_eq
theorem ev_lenSetT (h : EvD K o ta ds (.tuple (ns.map PyData.int))) (hl : ns.length ≤ 1000) : EvD K o (tLenSetT K ta) ds (.int (dedI ns).length) := fun σ H E W Q q =>
  h σ H E W _ fun v H1 e1 W1 x => by
    obtain ⟨a, ys, rfl, hq, t⟩ := dd_tup x
    rw [dds_ints t] at hq
    refine ⟨a, ns, rfl, ex_sqT hide_ex hq, hl, fun L nd mem => ?_⟩
    rw [len_same nd (nodup_dedI ns) fun k => (mem k).trans (mem_dedI k ns).symm]
    exact q _ H1 e1 W1 (.int _)
end
end Ph
namespace Ph
open PySem PySem.Spec PyProof.Rows L2
abbrev SEnv := List (Option PyData)
def Evf (K : PySem.W.Frag) (te : TE) (f : SEnv → Option PyData) : Prop := ∀ o ds d, f ds = some d → EvD K o te ds d
def Eaf (K : PySem.W.Frag) (ta : TA) (f : SEnv → Option (List PyData)) : Prop := ∀ o ds es, f ds = some es → EvA K o ta ds es
def Ebf (K : PySem.W.Frag) (tt : TT) (f : SEnv → Option Bool) : Prop := ∀ o ds b, f ds = some b → EvB K o tt ds b
def Eif (K : PySem.W.Frag) (wi : TI) (f : SEnv → Option (List PyData)) : Prop := ∀ o ds es, f ds = some es → EvI K o wi ds es
def Opf (K : PySem.W.Frag) (r : R2) (g : PyData → PyData → Option PyData) : Prop := ∀ o a b d, g a b = some d → OpD K o r a b d
def Cbf (K : PySem.W.Frag) (r : List V → Hp → VK → Prop) (h : List PyData → Option PyData) : Prop := ∀ o as d, h as = some d → CbD K o r as d
theorem bnd {α β : Type} {x : Option α} {f : α → Option β} {b : β} (h : x.bind f = some b) : ∃ a, x = some a ∧ f a = some b := Option.bind_eq_some_iff.mp h
theorem ite_some {α : Type} {c : Prop} [Decidable c] {x y : α} (h : (if c then some x else none) = some y) : c ∧ x = y := by
  by_cases z : c
  · rw [if_pos z] at h
    exact ⟨z, Option.some.inj h⟩
  · rw [if_neg z] at h
    cases h
def fVar (i : Nat) : SEnv → Option PyData := fun ds => (ds[i]?).bind id
def fC (d : PyData) : SEnv → Option PyData := fun _ => some d
def fNil : SEnv → Option (List PyData) := fun _ => some []
def fCons (f : SEnv → Option PyData) (g : SEnv → Option (List PyData)) : SEnv → Option (List PyData) := fun ds => (f ds).bind fun d => (g ds).bind fun es => some (d :: es)
def fTup (g : SEnv → Option (List PyData)) : SEnv → Option PyData := fun ds => (g ds).bind fun es => if es.length ≤ 1000000 then some (.tuple es) else none
def fLst (g : SEnv → Option (List PyData)) : SEnv → Option PyData := fun ds => (g ds).bind fun es => if es.length ≤ 1000000 then some (.list es) else none
def fOp (g : PyData → PyData → Option PyData) (f1 f2 : SEnv → Option PyData) : SEnv → Option PyData := fun ds => (f1 ds).bind fun a => (f2 ds).bind fun b => g a b
def fCall (n : Nat) (F : List PyData → Option PyData) (g : SEnv → Option (List PyData)) : SEnv → Option PyData := fun ds => (g ds).bind fun as => if as.length = n then F as else none
def fCB (h : List PyData → Option PyData) (g : SEnv → Option (List PyData)) : SEnv → Option PyData := fun ds => (g ds).bind h
def fIs (p : PyData → Bool) (f : SEnv → Option PyData) : SEnv → Option PyData := fun ds => (f ds).bind fun d => some (.bool (p d))
def asB : PyData → Option Bool
  | .bool b => some b
  | _ => none
def fTest (f : SEnv → Option PyData) : SEnv → Option Bool := fun ds => (f ds).bind asB
def fNotT (f : SEnv → Option Bool) : SEnv → Option Bool := fun ds => (f ds).bind fun b => some (!b)
def fAndT (f g : SEnv → Option Bool) : SEnv → Option Bool := fun ds => (f ds).bind fun b => if b then g ds else some false
def fOrT (f g : SEnv → Option Bool) : SEnv → Option Bool := fun ds => (f ds).bind fun b => if b then some true else g ds
def fAnd (f g : SEnv → Option PyData) : SEnv → Option PyData := fun ds => (fTest f ds).bind fun b => if b then (fTest g ds).bind fun c => some (.bool c) else some (.bool false)
def fOr (f g : SEnv → Option PyData) : SEnv → Option PyData := fun ds => (fTest f ds).bind fun b => if b then some (.bool true) else (fTest g ds).bind fun c => some (.bool c)
def fNot (f : SEnv → Option PyData) : SEnv → Option PyData := fun ds => (fTest f ds).bind fun b => some (.bool (!b))
def fIfE (c : SEnv → Option Bool) (f g : SEnv → Option PyData) : SEnv → Option PyData := fun ds => (c ds).bind fun b => if b then f ds else g ds
def fChain (g g' : PyData → PyData → Option PyData) (fa fb fc : SEnv → Option PyData) : SEnv → Option PyData := fun ds => (fa ds).bind fun a => (fb ds).bind fun b => ((g a b).bind asB).bind fun k => if k then (fc ds).bind fun c => g' b c else some (.bool false)
def gI (h : Int → Int → PyData) : PyData → PyData → Option PyData
  | .int i, .int j => some (h i j)
  | _, _ => none
def gAdd := gI fun i j => .int (i + j)
def gSub := gI fun i j => .int (i - j)
def gLt := gI fun i j => .bool (decide (i < j))
def gLe := gI fun i j => .bool (decide (i ≤ j))
def gGt := gI fun i j => .bool (decide (j < i))
def gGe := gI fun i j => .bool (decide (j ≤ i))
def gEqI := gI fun i j => .bool (decide (i = j))
def gNeI := gI fun i j => .bool (!decide (i = j))
def gMod : PyData → PyData → Option PyData
  | .int i, .int j => if 0 < j then some (.int (i % j)) else none
  | _, _ => none
def gMul : PyData → PyData → Option PyData
  | .int i, .int j => if -(2 ^ 64) < i ∧ i < 2 ^ 64 then some (.int (i * j)) else none
  | _, _ => none
def gFdiv : PyData → PyData → Option PyData
  | .int i, .int j => if 0 < j ∧ j < 1073741824 then some (.int (i / j)) else none
  | _, _ => none
def gEqD : PyData → PyData → Option PyData := fun a b => if SeqAt.shaped a = true ∧ SeqAt.shaped b = true then some (.bool (PyData.eqv a b)) else none
def gNeD : PyData → PyData → Option PyData := fun a b => if SeqAt.shaped a = true ∧ SeqAt.shaped b = true then some (.bool (!PyData.eqv a b)) else none
def gIxT : PyData → PyData → Option PyData
  | .tuple es, .int i => atI es i
  | _, _ => none
def gIxL : PyData → PyData → Option PyData
  | .list es, .int i => atI es i
  | _, _ => none
def gCatT : PyData → PyData → Option PyData
  | .tuple as, .tuple bs => if as.length + bs.length ≤ 1000000 then some (.tuple (as ++ bs)) else none
  | _, _ => none
def gCatL : PyData → PyData → Option PyData
  | .list as, .list bs => if as.length + bs.length ≤ 1000000 then some (.list (as ++ bs)) else none
  | _, _ => none
def gRepL : PyData → PyData → Option PyData
  | .list as, .int n => if n < 1000 ∧ -1000 < n ∧ as.length * n.toNat ≤ 1000000 then some (.list (List.replicate n.toNat as).flatten) else none
  | _, _ => none
def hLen : List PyData → Option PyData
  | [.tuple es] => some (.int es.length)
  | [.list es] => some (.int es.length)
  | _ => none
def hTup : List PyData → Option PyData
  | [.tuple es] => some (.tuple es)
  | [.list es] => some (.tuple es)
  | _ => none
def hLst : List PyData → Option PyData
  | [.tuple es] => some (.list es)
  | [.list es] => some (.list es)
  | _ => none
def bools : List PyData → Option (List Bool)
  | [] => some []
  | .bool b :: es => (bools es).bind fun bs => some (b :: bs)
  | _ :: _ => none
def intsOf : List PyData → Option (List Int)
  | [] => some []
  | .int b :: es => (intsOf es).bind fun bs => some (b :: bs)
  | _ :: _ => none
def hAll : List PyData → Option PyData
  | [.list es] => (bools es).bind fun bs => some (.bool (bs.all id))
  | _ => none
def hMaxT : List PyData → Option PyData
  | [.tuple es] => (intsOf es).bind fun ns => if 0 < ns.length then some (.int (maxI ns)) else none
  | _ => none
def hInt : List PyData → Option PyData
  | [.int i] => some (.int i)
  | [.bool b] => some (.int (if b then 1 else 0))
  | _ => none
def fLenSet (f : SEnv → Option PyData) : SEnv → Option PyData := fun ds => (f ds).bind fun d => match d with
  | .tuple es => (intsOf es).bind fun ns => if ns.length ≤ 1000 then some (.int (dedI ns).length) else none
  | _ => none
theorem bools_map : ∀ {es : List PyData} {bs : List Bool}, bools es = some bs → es = bs.map PyData.bool
  | [], _, h => by cases h; rfl
  | .bool b :: es, _, h => by
    obtain ⟨bs, h1, h2⟩ := bnd h
    cases h2
    rw [bools_map h1]
    rfl
  | .none :: _, _, h => by cases h
  | .int _ :: _, _, h => by cases h
  | .str _ :: _, _, h => by cases h
  | .list _ :: _, _, h => by cases h
  | .tuple _ :: _, _, h => by cases h
  | .dict _ :: _, _, h => by cases h
theorem intsOf_map : ∀ {es : List PyData} {ns : List Int}, intsOf es = some ns → es = ns.map PyData.int
  | [], _, h => by cases h; rfl
  | .int b :: es, _, h => by
    obtain ⟨bs, h1, h2⟩ := bnd h
    cases h2
    rw [intsOf_map h1]
    rfl
  | .none :: _, _, h => by cases h
  | .bool _ :: _, _, h => by cases h
  | .str _ :: _, _, h => by cases h
  | .list _ :: _, _, h => by cases h
  | .tuple _ :: _, _, h => by cases h
  | .dict _ :: _, _, h => by cases h
theorem mil : (1000000 : Nat) ≤ sizeLine := by decide
section
variable {K : PySem.W.Frag} {ta tb tc te : TE} {f g f1 f2 f3 : SEnv → Option PyData}
theorem xf_var {i : Nat} : Evf K (tVar i) (fVar i) := fun o ds d h => by
  unfold fVar at h
  obtain ⟨x, h1, h2⟩ := bnd h
  exact ev_var (by rw [h1]; exact congrArg some h2)
theorem xf_int {i : Int} : Evf K (tC (.int i)) (fC (.int i)) := fun o ds d h => by cases h; exact ev_int
theorem xf_bl {i : Bool} : Evf K (tC (.bl i)) (fC (.bool i)) := fun o ds d h => by cases h; exact ev_bl
theorem xf_str {i : Str} : Evf K (tC (.str i)) (fC (.str i)) := fun o ds d h => by cases h; exact ev_str
theorem xf_non : Evf K (tC .non) (fC .none) := fun o ds d h => by cases h; exact ev_non
theorem af_nil : Eaf K tNil fNil := fun o ds d h => by cases h; exact ea_nil
theorem af_cons {t : TA} {r : SEnv → Option (List PyData)} (h1 : Evf K ta f) (h2 : Eaf K t r) : Eaf K (tCons ta t) (fCons f r) := fun o ds d h => by
  obtain ⟨x, a, h⟩ := bnd h
  obtain ⟨y, b, h⟩ := bnd h
  cases h
  exact ea_cons (h1 o ds _ a) (h2 o ds _ b)
theorem xf_tup {t : TA} {r : SEnv → Option (List PyData)} (h1 : Eaf K t r) : Evf K (tTup t) (fTup r) := fun o ds d h => by
  obtain ⟨x, a, h⟩ := bnd h
  split at h
  · cases h
    exact ev_tup (h1 o ds _ a) (Nat.le_trans (by assumption) mil)
  · cases h
theorem xf_lst {t : TA} {r : SEnv → Option (List PyData)} (h1 : Eaf K t r) : Evf K (tLst t) (fLst r) := fun o ds d h => by
  obtain ⟨x, a, h⟩ := bnd h
  split at h
  · cases h
    exact ev_lst (h1 o ds _ a) (Nat.le_trans (by assumption) mil)
  · cases h
theorem xf_op {r : R2} {q : PyData → PyData → Option PyData} (h1 : Evf K ta f) (h2 : Evf K tb g) (hr : Opf K r q) : Evf K (tOp r ta tb) (fOp q f g) := fun o ds d h => by
  obtain ⟨x, a, h⟩ := bnd h
  obtain ⟨y, b, h⟩ := bnd h
  exact ev_op (h1 o ds _ a) (h2 o ds _ b) (hr o _ _ _ h)
theorem xf_call {n : Nat} {F : List PyData → Option PyData} {E : XK} {t : TA} {r : SEnv → Option (List PyData)} (h1 : Eaf K t r) : Evf K (tCall (spHide (spD K n fun as d => F as = some d)) [] E t) (fCall n F r) := fun o ds d h => by
  obtain ⟨x, a, h⟩ := bnd h
  split at h
  · exact ev_call (h1 o ds _ a) (by assumption) h
  · cases h
theorem xf_cb {r : List V → Hp → VK → Prop} {q : List PyData → Option PyData} {t : TA} {w : SEnv → Option (List PyData)} (h1 : Eaf K t w) (hr : Cbf K r q) : Evf K (tCB r t) (fCB q w) := fun o ds d h => by
  obtain ⟨x, a, h⟩ := bnd h
  exact ev_cb (h1 o ds _ a) (hr o _ _ h)
theorem asB_eq {d : PyData} {b : Bool} (h : asB d = some b) : d = .bool b := by
  cases d <;> cases h
  rfl
theorem bf_test (h1 : Evf K ta f) : Ebf K (tTest ta) (fTest f) := fun o ds b h => by
  obtain ⟨x, a, h⟩ := bnd h
  cases asB_eq h
  exact eb_test (h1 o ds _ a)
theorem bf_B (h1 : Evf K ta f) : Ebf K (tB ta) (fTest f) := fun o ds b h => by
  obtain ⟨x, a, h⟩ := bnd h
  cases asB_eq h
  exact eb_B (h1 o ds _ a)
theorem bf_not {t : TT} {p : SEnv → Option Bool} (h1 : Ebf K t p) : Ebf K (tNot t) (fNotT p) := fun o ds b h => by
  obtain ⟨x, a, h⟩ := bnd h
  cases h
  exact eb_not (h1 o ds _ a)
theorem bf_or {t u : TT} {p q : SEnv → Option Bool} (h1 : Ebf K t p) (h2 : Ebf K u q) : Ebf K (tOr t u) (fOrT p q) := fun o ds b h => by
  obtain ⟨x, a, h⟩ := bnd h
  cases x with
  | false => exact (Bool.false_or b) ▸ eb_or (h1 o ds _ a) (fun _ => h2 o ds _ h)
  | true =>
    cases h
    exact eb_or (b := false) (h1 o ds _ a) (fun z => nomatch z)
theorem tst {ds : SEnv} {b : Bool} (h : fTest f ds = some b) : f ds = some (.bool b) := by
  obtain ⟨x, a, h⟩ := bnd h
  rw [a, asB_eq h]
theorem xf_and (h1 : Evf K ta f) (h2 : Evf K tb g) : Evf K (tAndV ta tb) (fAnd f g) := fun o ds d h => by
  obtain ⟨x, a, h⟩ := bnd h
  cases x with
  | true =>
    obtain ⟨c, b, h⟩ := bnd h
    cases h
    exact ev_to (ev_andV (h1 o ds _ (tst a)) (fun _ => h2 o ds _ (tst b))) (by rw [Bool.true_and])
  | false =>
    cases h
    exact ev_andV (b := false) (h1 o ds _ (tst a)) (fun z => nomatch z)
theorem xf_not (h1 : Evf K ta f) : Evf K (tNotV ta) (fNot f) := fun o ds d h => by
  obtain ⟨x, a, h⟩ := bnd h
  cases h
  exact ev_notV (h1 o ds _ (tst a))
theorem xf_ifE {t : TT} {p : SEnv → Option Bool} (h0 : Ebf K t p) (h1 : Evf K ta f) (h2 : Evf K tb g) : Evf K (tIf t ta tb) (fIfE p f g) := fun o ds d h => by
  obtain ⟨x, a, h⟩ := bnd h
  cases x with
  | true => exact ev_ifE (h0 o ds _ a) (fun _ => h1 o ds _ h) (fun z => nomatch z)
  | false => exact ev_ifE (h0 o ds _ a) (fun z => nomatch z) (fun _ => h2 o ds _ h)
theorem xf_chain {r r' : R2} {q q' : PyData → PyData → Option PyData} (h1 : Evf K ta f1) (h2 : Evf K tb f2) (h3 : Evf K tc f3) (hr : Opf K r q) (hr' : Opf K r' q') : Evf K (tChain r r' ta tb tc) (fChain q q' f1 f2 f3) := fun o ds d h => by
  obtain ⟨a, ea, h⟩ := bnd h
  obtain ⟨b, eb, h⟩ := bnd h
  obtain ⟨k, ek, h⟩ := bnd h
  obtain ⟨z, ez, ek⟩ := bnd ek
  cases asB_eq ek
  intro σ H E W Q q0
  refine h1 o ds a ea σ H E W _ fun v H1 e1 W1 x => h2 o ds b eb σ H1 (E.mono (ex_hide e1)) W1 _ fun u H2 e2 W2 y => hr o _ _ _ ez v u H2 W2 (x.mono (ex_hide e2)) y _ fun z H3 e3 W3 c => ?_
  refine ⟨k, dd_bool c, ?_⟩
  cases k with
  | true =>
    obtain ⟨c', ec, h⟩ := bnd h
    refine iteT ?_
    exact h3 o ds c' ec σ H3 (E.mono (ex_hide (e1.trans (e2.trans e3)))) W3 _ fun w' H4 e4 W4 x4 => hr' o _ _ _ h u w' H4 W4 (y.mono (ex_hide (e3.trans e4))) x4 _ fun v5 H5 e5 W5 x5 => q0 v5 H5 (e1.trans (e2.trans (e3.trans (e4.trans e5)))) W5 x5
  | false =>
    cases h
    refine iteF ?_
    exact q0 _ H3 (e1.trans (e2.trans e3)) W3 (.bl _)
theorem xf_is_int (h : Evf K ta f) : Evf K (tCB (rIsi K) (tCons ta (tCons (tC (.ty "int")) tNil))) (fIs isInt f) := fun o ds d q => by
  obtain ⟨x, a, q⟩ := bnd q
  cases q
  exact ev_is_int (h o ds _ a)
theorem xf_is_bool (h : Evf K ta f) : Evf K (tCB (rIsi K) (tCons ta (tCons (tC (.ty "bool")) tNil))) (fIs isBool f) := fun o ds d q => by
  obtain ⟨x, a, q⟩ := bnd q
  cases q
  exact ev_is_bool (h o ds _ a)
theorem xf_is_tuple (h : Evf K ta f) : Evf K (tCB (rIsi K) (tCons ta (tCons (tC (.ty "tuple")) tNil))) (fIs isTuple f) := fun o ds d q => by
  obtain ⟨x, a, q⟩ := bnd q
  cases q
  exact ev_is_tuple (h o ds _ a)
theorem xf_is_list_tuple (h : Evf K ta f) : Evf K (tCB (rIsiT K) (tCons ta (tCons (tTup (tCons (tC (.ty "list")) (tCons (tC (.ty "tuple")) tNil))) tNil))) (fIs (fun d => isList d || isTuple d) f) := fun o ds d q => by
  obtain ⟨x, a, q⟩ := bnd q
  cases q
  exact ev_is_list_tuple (h o ds _ a)
theorem xf_lenSet (h : Evf K ta f) : Evf K (tLenSetT K ta) (fLenSet f) := fun o ds d q => by
  obtain ⟨x, a, q⟩ := bnd q
  cases x <;> first | (cases q; done) | skip
  rename_i es
  obtain ⟨ns, e, q⟩ := bnd q
  obtain ⟨c, rfl⟩ := ite_some q
  have z := h o ds _ a
  rw [intsOf_map e] at z
  exact ev_lenSetT z c
theorem of_I0 {h : Int → Int → V} {w : Int → Int → PyData} (e : ∀ (G : Hp) i j, DD K G (h i j) (w i j)) : Opf K (rI0 h) (gI w) := fun o a b d q => by
  cases a <;> first | (cases q; done) | skip
  cases b <;> first | (cases q; done) | skip
  cases q
  exact od_I0 fun G => e G _ _
theorem of_add : Opf K (rI0 fun i j => .int (i + j)) gAdd := of_I0 fun _ _ _ => .int _
theorem of_sub : Opf K (rI0 fun i j => .int (i - j)) gSub := of_I0 fun _ _ _ => .int _
theorem of_lt : Opf K (rI0 fun i j => .bl (decide (i < j))) gLt := of_I0 fun _ _ _ => .bl _
theorem of_le : Opf K (rI0 fun i j => .bl (decide (i ≤ j))) gLe := of_I0 fun _ _ _ => .bl _
theorem of_gt : Opf K (rI0 fun i j => .bl (decide (j < i))) gGt := of_I0 fun _ _ _ => .bl _
theorem of_ge : Opf K (rI0 fun i j => .bl (decide (j ≤ i))) gGe := of_I0 fun _ _ _ => .bl _
theorem of_eqI : Opf K rEq gEqI := fun o a b d q => by
  cases a <;> first | (cases q; done) | skip
  cases b <;> first | (cases q; done) | skip
  cases q
  exact od_eqI
theorem of_neI : Opf K rNe gNeI := fun o a b d q => by
  cases a <;> first | (cases q; done) | skip
  cases b <;> first | (cases q; done) | skip
  cases q
  exact od_neI
theorem of_mod : Opf K (rI (fun _ j => 0 < j) fun i j => .int (i % j)) gMod := fun o a b d q => by
  cases a <;> first | (cases q; done) | skip
  cases b <;> first | (cases q; done) | skip
  obtain ⟨c, rfl⟩ := ite_some q
  exact od_mod c
theorem of_mul : Opf K (rI CMul fun i j => .int (i * j)) gMul := fun o a b d q => by
  cases a <;> first | (cases q; done) | skip
  cases b <;> first | (cases q; done) | skip
  obtain ⟨c, rfl⟩ := ite_some q
  exact od_mul (.inl c)
theorem of_fdiv : Opf K (rI CDiv fun i j => .int (i / j)) gFdiv := fun o a b d q => by
  cases a <;> first | (cases q; done) | skip
  cases b <;> first | (cases q; done) | skip
  obtain ⟨c, rfl⟩ := ite_some q
  exact od_div c
theorem of_eqD : Opf K (rEqD K) gEqD := fun o a b d q => by
  unfold gEqD at q
  split at q
  · rename_i c
    cases q
    exact od_eqD' c.1 c.2
  · cases q
theorem of_neD : Opf K (rNeD K) gNeD := fun o a b d q => by
  unfold gNeD at q
  split at q
  · rename_i c
    cases q
    exact fun x y H W hx hy Q q => ⟨a, b, (hx.mono hide_ex).dp (SeqAt.canLay_of_shaped c.1), (hy.mono hide_ex).dp (SeqAt.canLay_of_shaped c.2), c.1, c.2, q _ H (Same.refl H) W (.bl _)⟩
  · cases q
theorem of_ixT : Opf K (rIxT K) gIxT := fun o a b d q => by
  cases a <;> first | (cases q; done) | skip
  cases b <;> first | (cases q; done) | skip
  exact od_ixT q
theorem of_ixL : Opf K (rIxL K) gIxL := fun o a b d q => by
  cases a <;> first | (cases q; done) | skip
  cases b <;> first | (cases q; done) | skip
  exact od_ixL q
theorem of_catT : Opf K (rCatA K) gCatT := fun o a b d q => by
  cases a <;> first | (cases q; done) | skip
  cases b <;> first | (cases q; done) | skip
  obtain ⟨c, rfl⟩ := ite_some q
  exact od_catA (Nat.le_trans c mil)
theorem of_catL : Opf K rCat gCatL := fun o a b d q => by
  cases a <;> first | (cases q; done) | skip
  cases b <;> first | (cases q; done) | skip
  obtain ⟨c, rfl⟩ := ite_some q
  exact od_cat (Nat.le_trans c mil)
theorem hf_len : Cbf K (rLen K) hLen := fun o as d q => by
  unfold hLen at q
  split at q <;> cases q
  · exact cb_lenT
  · exact cb_lenL
theorem hf_tup : Cbf K (rTupOf K) hTup := fun o as d q => by
  unfold hTup at q
  split at q <;> cases q
  · exact cb_tupT
  · exact cb_tupL
theorem hf_lst : Cbf K (rLstOf K) hLst := fun o as d q => by
  unfold hLst at q
  split at q <;> cases q
  · exact cb_lstT
  · exact cb_lstL
theorem hf_all : Cbf K (rAll K) hAll := fun o as d q => by
  unfold hAll at q
  split at q
  · obtain ⟨bs, e, q⟩ := bnd q
    cases q
    rw [bools_map e]
    exact cb_all
  · cases q
theorem hf_maxT : Cbf K (rMaxT K) hMaxT := fun o as d q => by
  unfold hMaxT at q
  split at q
  · obtain ⟨bs, e, q⟩ := bnd q
    split at q
    · cases q
      rw [intsOf_map e]
      exact cb_maxT (by assumption)
    · cases q
  · cases q
theorem hf_int : Cbf K rInt hInt := fun o as d q => by
  unfold hInt at q
  split at q <;> cases q
  · exact cb_int
  · exact cb_intB
end
end Ph
namespace Ph
open PySem PySem.Spec PyProof.Rows L2
def Gtf (K : PySem.W.Frag) (g : TG) (q : SEnv → PyData → Option SEnv) : Prop := ∀ ds e ds', q ds e = some ds' → GtD K g ds e ds'
def tgName (i : Nat) : SEnv → PyData → Option SEnv := fun ds e => some (ds.set i (some e))
def tgTwo (i j : Nat) : SEnv → PyData → Option SEnv := fun ds e => match e with
  | .tuple [a, b] => some ((ds.set i (some a)).set j (some b))
  | _ => none
def tgFour (i j k l : Nat) : SEnv → PyData → Option SEnv := fun ds e => match e with
  | .tuple [a, b, c, d] => some ((((ds.set i (some a)).set j (some b)).set k (some c)).set l (some d))
  | _ => none
theorem gf_name {K : PySem.W.Frag} {i : Nat} : Gtf K (gName i) (tgName i) := fun ds e ds' h => by cases h; exact gt_name
theorem gf_two {K : PySem.W.Frag} {i j : Nat} : Gtf K (gTup K 2 (gCons (gName i) (gCons (gName j) gNil))) (tgTwo i j) := fun ds e ds' h => by
  unfold tgTwo at h
  split at h <;> cases h
  exact gt_two
theorem gf_four {K : PySem.W.Frag} {i j k l : Nat} : Gtf K (gTup K 4 (gCons (gName i) (gCons (gName j) (gCons (gName k) (gCons (gName l) gNil))))) (tgFour i j k l) := fun ds e ds' h => by
  unfold tgFour at h
  split at h <;> cases h
  intro x σ H o hx E Q q
  obtain ⟨p, xs, rfl, hq, t⟩ := dd_tup hx
  cases t with | cons h1 t => ?_
  cases t with | cons h2 t => ?_
  cases t with | cons h3 t => ?_
  cases t with | cons h4 t => ?_
  cases t
  exact ⟨p, _, rfl, ex_sqT hide_ex hq, rfl, _, _, rfl, _, _, rfl, _, _, rfl, _, _, rfl, rfl, q _ ((((E.set h1 i).set h2 j).set h3 k).set h4 l)⟩
section
variable {K : PySem.W.Frag} {ta tb te : TE} {f g : SEnv → Option PyData} {wi : TI} {q : SEnv → Option (List PyData)} {tg : TG} {gt : SEnv → PyData → Option SEnv} {tt : TT} {p : SEnv → Option Bool}
def asT : PyData → Option (List PyData)
  | .tuple es => some es
  | _ => none
def asL : PyData → Option (List PyData)
  | .list es => some es
  | _ => none
def wkT (f : SEnv → Option PyData) : SEnv → Option (List PyData) := fun ds => (f ds).bind asT
def wkL (f : SEnv → Option PyData) : SEnv → Option (List PyData) := fun ds => (f ds).bind asL
def wkET (f : SEnv → Option PyData) : SEnv → Option (List PyData) := fun ds => (wkT f ds).bind fun es => some (enumD es)
def wkEL (f : SEnv → Option PyData) : SEnv → Option (List PyData) := fun ds => (wkL f ds).bind fun es => some (enumD es)
def wkZT (f g : SEnv → Option PyData) : SEnv → Option (List PyData) := fun ds => (wkT f ds).bind fun as => (wkT g ds).bind fun bs => some (zipD as bs)
theorem asT_eq {d : PyData} {es : List PyData} (h : asT d = some es) : d = .tuple es := by
  cases d <;> cases h
  rfl
theorem asL_eq {d : PyData} {es : List PyData} (h : asL d = some es) : d = .list es := by
  cases d <;> cases h
  rfl
theorem wkT_eq {ds : SEnv} {es : List PyData} (h : wkT f ds = some es) : f ds = some (.tuple es) := by
  obtain ⟨x, a, h⟩ := bnd h
  rw [a, asT_eq h]
theorem wkL_eq {ds : SEnv} {es : List PyData} (h : wkL f ds = some es) : f ds = some (.list es) := by
  obtain ⟨x, a, h⟩ := bnd h
  rw [a, asL_eq h]
theorem wf_tup (h : Evf K ta f) : Eif K (iTup K ta) (wkT f) := fun o ds es e => ei_tup (h o ds _ (wkT_eq e))
theorem wf_lst (h : Evf K ta f) : Eif K (iList K ta) (wkL f) := fun o ds es e => ei_lst (h o ds _ (wkL_eq e))
theorem wf_enT (h : Evf K ta f) : Eif K (iEnumT K (tCons ta tNil)) (wkET f) := fun o ds es e => by
  obtain ⟨x, a, e⟩ := bnd e
  cases e
  exact ei_enumT (h o ds _ (wkT_eq a))
theorem wf_enL (h : Evf K ta f) : Eif K (iEnum K (tCons ta tNil)) (wkEL f) := fun o ds es e => by
  obtain ⟨x, a, e⟩ := bnd e
  cases e
  exact ei_enum (h o ds _ (wkL_eq a))
theorem wf_zipT (h : Evf K ta f) (h2 : Evf K tb g) : Eif K (RZ.iZipA K (tCons ta (tCons tb tNil))) (wkZT f g) := fun o ds es e => by
  obtain ⟨x, a, e⟩ := bnd e
  obtain ⟨y, b, e⟩ := bnd e
  cases e
  exact ei_zipT (h o ds _ (wkT_eq a)) (h2 o ds _ (wkT_eq b))
def lcGo (gt : SEnv → PyData → Option SEnv) (p : SEnv → Option Bool) (f : SEnv → Option PyData) (w : SEnv) : List PyData → Option (List PyData)
  | [] => some []
  | x :: xs => (gt w x).bind fun d1 => (p d1).bind fun b => if b then (f d1).bind fun y => (lcGo gt p f w xs).bind fun ys => some (y :: ys) else lcGo gt p f w xs
def fLc (q : SEnv → Option (List PyData)) (gt : SEnv → PyData → Option SEnv) (p : SEnv → Option Bool) (f : SEnv → Option PyData) (vs : List Nat) : SEnv → Option PyData := fun ds => (q ds).bind fun xs =>
  if xs.length ≤ 1000000 then (lcGo gt p f (wipeD ds vs) xs).bind fun ys => some (.list ys) else none
theorem lcGo_ok {w : SEnv} : ∀ {xs ys : List PyData}, lcGo gt p f w xs = some ys → (∀ e ∈ xs, ∃ d1 b, gt w e = some d1 ∧ p d1 = some b ∧ (b = true → ∃ y, f d1 = some y)) ∧
    ys = (xs.filter fun e => (((gt w e).bind p).getD false)).map fun e => ((gt w e).bind f).getD .none
  | [], ys, h => by
    cases h
    exact ⟨fun e he => (by cases he), rfl⟩
  | x :: xs, ys, h => by
    obtain ⟨d1, e1, h⟩ := bnd h
    obtain ⟨b, e2, h⟩ := bnd h
    have k : ((gt w x).bind p).getD false = b := by rw [e1, Option.bind_some, e2]; rfl
    cases b with
    | true =>
      obtain ⟨y, e3, h⟩ := bnd h
      obtain ⟨zs, e4, h⟩ := bnd h
      cases h
      obtain ⟨a, r⟩ := lcGo_ok e4
      refine ⟨fun e he => ?_, ?_⟩
      · rcases List.mem_cons.mp he with rfl | he
        · exact ⟨d1, true, e1, e2, fun _ => ⟨y, e3⟩⟩
        · exact a e he
      · have k2 : ((gt w x).bind f).getD .none = y := by rw [e1, Option.bind_some, e3]; rfl
        rw [List.filter_cons_of_pos (p := fun e => ((gt w e).bind p).getD false) k, List.map_cons, k2, r]
    | false =>
      obtain ⟨a, r⟩ := lcGo_ok h
      refine ⟨fun e he => ?_, ?_⟩
      · rcases List.mem_cons.mp he with rfl | he
        · exact ⟨d1, false, e1, e2, fun z => nomatch z⟩
        · exact a e he
      · rw [List.filter_cons_of_neg (p := fun e => ((gt w e).bind p).getD false) (by rw [k]; exact Bool.false_ne_true), r]
def fYes : SEnv → Option Bool := fun _ => some true
theorem bf_yes : Ebf K tYes fYes := fun o ds b h => by cases h; exact eb_yes
theorem xf_lc {vs : List Nat} (hi : Eif K wi q) (hg : Gtf K tg gt) (hw : GtW tg vs) (ht : Ebf K tt p) (he : Evf K te f) : Evf K (tLc wi tg tt te vs) (fLc q gt p f vs) := fun o ds d h => by
  obtain ⟨xs, a, h⟩ := bnd h
  by_cases c : xs.length ≤ 1000000
  · rw [if_pos c] at h
    obtain ⟨ys, b, h⟩ := bnd h
    cases h
    obtain ⟨ok, r⟩ := lcGo_ok b
    rw [r]
    have ds' : ∀ e ∈ xs, ∀ d1, gt (wipeD ds vs) e = some d1 → (gt (wipeD ds vs) e).getD [] = d1 := fun e _ d1 z => by rw [z]; rfl
    have hi' : EvI K o wi ds (xs.map fun x => x) := by rw [List.map_id']; exact hi o ds xs a
    refine ev_lc (fun x => x) _ _ (fun e => (gt (wipeD ds vs) e).getD []) hi' c hw (fun e he' => ?_) (fun e he' o2 => ?_) (fun e he' k o2 => ?_)
    · obtain ⟨d1, b, e1, e2, e3⟩ := ok e he'
      rw [ds' e he' d1 e1]
      exact hg _ _ _ e1
    · obtain ⟨d1, b, e1, e2, e3⟩ := ok e he'
      rw [ds' e he' d1 e1]
      refine ht o2 d1 _ ?_
      rw [e1, Option.bind_some, e2]
      rfl
    · obtain ⟨d1, b, e1, e2, e3⟩ := ok e he'
      rw [e1, Option.bind_some, e2] at k
      obtain ⟨y, e4⟩ := e3 k
      rw [ds' e he' d1 e1]
      refine he o2 d1 _ ?_
      rw [e1, Option.bind_some, e4]
      rfl
  · rw [if_neg c] at h
    cases h
inductive Res where
  | nx (ds : SEnv)
  | rt (d : PyData)
def Svf (K : PySem.W.Frag) (ts : TS) (f : SEnv → Option Res) : Prop := ∀ o ds, (∀ ds', f ds = some (.nx ds') → SvN K o ts ds ds') ∧ (∀ d, f ds = some (.rt d) → SvR K o ts ds d)
def sSkip : SEnv → Option Res := fun ds => some (.nx ds)
def sSeq (f g : SEnv → Option Res) : SEnv → Option Res := fun ds => (f ds).bind fun r => match r with
  | .nx ds' => g ds'
  | .rt d => some (.rt d)
def sAsg (f : SEnv → Option PyData) (gt : SEnv → PyData → Option SEnv) : SEnv → Option Res := fun ds => (f ds).bind fun d => (gt ds d).bind fun ds' => some (.nx ds')
def sRet (f : SEnv → Option PyData) : SEnv → Option Res := fun ds => (f ds).bind fun d => some (.rt d)
def sIf (c : SEnv → Option Bool) (f g : SEnv → Option Res) : SEnv → Option Res := fun ds => (c ds).bind fun b => if b then f ds else g ds
def forGo (gt : SEnv → PyData → Option SEnv) (f : SEnv → Option Res) : SEnv → List PyData → Option Res
  | ds, [] => some (.nx ds)
  | ds, x :: xs => (gt ds x).bind fun d1 => (f d1).bind fun r => match r with
    | .nx d2 => forGo gt f d2 xs
    | .rt d => some (.rt d)
def sFor (q : SEnv → Option (List PyData)) (gt : SEnv → PyData → Option SEnv) (f : SEnv → Option Res) : SEnv → Option Res := fun ds => (q ds).bind fun xs => forGo gt f ds xs
variable {t u : TS} {r s : SEnv → Option Res}
theorem sf_nil : Svf K tNext sSkip := fun o ds => ⟨fun ds' h => by cases h; exact sn_nil, fun d h => by cases h⟩
theorem sf_seq (h1 : Svf K t r) (h2 : Svf K u s) : Svf K (tSeq t u) (sSeq r s) := fun o ds => by
  refine ⟨fun ds' h => ?_, fun d h => ?_⟩
  · obtain ⟨x, a, h⟩ := bnd h
    cases x with
    | nx d1 => exact sn_seq ((h1 o ds).1 _ a) ((h2 o d1).1 _ h)
    | rt d1 => cases h
  · obtain ⟨x, a, h⟩ := bnd h
    cases x with
    | nx d1 => exact sr_seq ((h1 o ds).1 _ a) ((h2 o d1).2 _ h)
    | rt d1 =>
      cases h
      exact sr_now ((h1 o ds).2 _ a)
theorem sf_asg (h : Evf K te f) (hg : Gtf K tg gt) : Svf K (tAsg te tg) (sAsg f gt) := fun o ds => by
  refine ⟨fun ds' h' => ?_, fun d h' => ?_⟩
  · obtain ⟨x, a, h'⟩ := bnd h'
    obtain ⟨y, b, h'⟩ := bnd h'
    cases h'
    exact sn_asg (h o ds _ a) (hg _ _ _ b)
  · obtain ⟨x, a, h'⟩ := bnd h'
    obtain ⟨y, b, h'⟩ := bnd h'
    cases h'
theorem sf_ret (h : Evf K te f) : Svf K (tRet te) (sRet f) := fun o ds => by
  refine ⟨fun ds' h' => ?_, fun d h' => ?_⟩
  · obtain ⟨x, a, h'⟩ := bnd h'
    cases h'
  · obtain ⟨x, a, h'⟩ := bnd h'
    cases h'
    exact sr_ret (h o ds _ a)
theorem sf_if (h : Ebf K tt p) (h1 : Svf K t r) (h2 : Svf K u s) : Svf K (tIfS tt t u) (sIf p r s) := fun o ds => by
  refine ⟨fun ds' h' => ?_, fun d h' => ?_⟩
  · obtain ⟨b, a, h'⟩ := bnd h'
    cases b with
    | true => exact sn_if (h o ds _ a) (fun _ => (h1 o ds).1 _ h') (fun z => nomatch z)
    | false => exact sn_if (h o ds _ a) (fun z => nomatch z) (fun _ => (h2 o ds).1 _ h')
  · obtain ⟨b, a, h'⟩ := bnd h'
    cases b with
    | true => exact sr_if (h o ds _ a) (fun _ => (h1 o ds).2 _ h') (fun z => nomatch z)
    | false => exact sr_if (h o ds _ a) (fun z => nomatch z) (fun _ => (h2 o ds).2 _ h')
theorem sf_for (hi : Eif K wi q) (hg : Gtf K tg gt) (hb : Svf K t r) : Svf K (tFor wi tg t) (sFor q gt r) := fun o ds => by
  have key : ∀ (R : Res), (sFor q gt r) ds = some R → ∀ (D : Ends) σ H, En K (hide H o) σ ds → Owned H o → (∀ ds', R = .nx ds' → ∀ σ' H', Ex H H' → Owned H' o → En K (hide H' o) σ' ds' → D.nx σ' H') → (∀ d, R = .rt d → ∀ v H', Ex H H' → Owned H' o → DD K (hide H' o) v d → D.rt v H') → tFor wi tg t D σ H := by
    intro R hR D σ H E W q1 q2
    obtain ⟨xs, a, hR⟩ := bnd hR
    refine for_data (D := D) (hi o ds xs a) E W (fun H1 i σ' H' => Ex H1 H' ∧ Owned H' o ∧ ∃ di, En K (hide H' o) σ' di ∧ forGo gt r di (xs.drop i) = some R) (fun H1 e1 W1 => ⟨Same.refl _, W1, ds, E.mono (ex_hide e1), hR⟩) ?_
    intro H1 e1 W1 i σ' H' pp
    obtain ⟨e2, W2, di, E2, h⟩ := pp
    refine ⟨o, ex_hide e2, W2, fun e he x H2 e3 hx => ?_, fun hl => ?_⟩
    · have dr : xs.drop i = e :: xs.drop (i + 1) := by
        obtain ⟨l, z⟩ := List.getElem?_eq_some_iff.mp he
        rw [List.drop_eq_getElem_cons l, z]
      rw [dr] at h
      obtain ⟨d1, g1, h⟩ := bnd h
      obtain ⟨r1, g2, h⟩ := bnd h
      refine hg _ _ _ g1 x σ' H2 o hx (E2.mono (ex_hide e3)) _ fun σ2 E3 => ?_
      cases r1 with
      | nx d2 => exact (hb o d1).1 d2 g2 _ σ2 H2 E3 (ow_mono W2 e3) fun σ4 H4 e4 W4 E4 => ⟨e2.trans (e3.trans e4), W4, d2, E4, h⟩
      | rt d2 =>
        have h : R = .rt d2 := (Option.some.inj h).symm
        exact (hb o d1).2 d2 g2 _ σ2 H2 E3 (ow_mono W2 e3) fun v H4 e4 W4 x4 => q2 d2 h v H4 (e1.trans (e2.trans (e3.trans e4))) W4 x4
    · subst hl
      rw [List.drop_length] at h
      exact q1 di (Option.some.inj h).symm σ' H' (e1.trans e2) W2 E2
  refine ⟨fun ds' h => fun D σ H E W q0 => key _ h D σ H E W (fun d1 e => by cases e; exact q0) (fun d1 e => by cases e), fun d h => fun D σ H E W q0 => key _ h D σ H E W (fun d1 e => by cases e) (fun d1 e => by cases e; exact q0)⟩
end
/-- a pure def as a function of its arguments -/
def defF (N : List Str) (s : SEnv → Option Res) : List PyData → Option PyData := fun as => (s (startD N as)).bind fun r => match r with
  | .rt d => some d
  | .nx _ => none
section
variable {P : Program} {w : World} {K : PySem.W.Frag} {mg : Str → Option Value} {base : Heap}
theorem fn_F {x qual : Str} {st : Stmt} {f : Addr} {fd : FuncData} {N ps : List Str} {k n : Nat} {s : SEnv → Option Res} (F : Fun K x qual st f fd) (S : FnScope N ps (defScope st)) (hn : ps.length = n)
    (hbody : ∀ (cdv : Value) (A : Around) (outer : List Env) (s0 : Shared) (H : Hp) (E : XK), Room k (A.deeper (envOfC qual (defScope st) s0.heap.objs.size f cdv)) →
      ∃ t, PSs (cxOf CX0 P w K mg base N qual (defScope st) f cdv A outer s0 H E).nox (defBody st) t ∧ Svf K t s) : FnOk P w K mg base CX0 (k + 1) f fd ps (spD K n fun as d => defF N s as = some d) :=
  fn_pure F S hn fun cdv A outer s0 H E hr => by
    obtain ⟨t, h1, h2⟩ := hbody cdv A outer s0 H E hr
    refine ⟨t, h1, fun as d hl hR => ?_⟩
    obtain ⟨x, a, hR⟩ := bnd hR
    cases x with
    | rt d1 =>
      cases hR
      exact (h2 [] _).2 _ a
    | nx d1 => cases hR
end
end Ph
namespace Ph
open PySem PySem.Spec PyProof.Rows L2
def Pof (K : PySem.W.Frag) (tl : TO) (f : SEnv → Option (Option Int)) : Prop := ∀ o ds x, f ds = some x → ∀ σ H, En K (hide H o) σ ds → Owned H o → ∀ Q : Option Int → Hp → Prop, (∀ H2, Ex H H2 → Owned H2 o → Q x H2) → tl σ H Q
def oNone : SEnv → Option (Option Int) := fun _ => some none
def asI : PyData → Option Int
  | .int i => some i
  | _ => none
theorem asI_eq {d : PyData} {i : Int} (h : asI d = some i) : d = .int i := by
  cases d <;> cases h
  rfl
def oSome (f : SEnv → Option PyData) : SEnv → Option (Option Int) := fun ds => ((f ds).bind asI).bind fun i => some (some i)
def cutD (es : List PyData) (lo hi : Option Int) : List PyData := (es.drop (HT.sIx es.length 0 lo)).take (HT.sIx es.length es.length hi - HT.sIx es.length 0 lo)
def fSlT (f : SEnv → Option PyData) (lo hi : SEnv → Option (Option Int)) : SEnv → Option PyData := fun ds => (wkT f ds).bind fun es => (lo ds).bind fun l => (hi ds).bind fun h => some (.tuple (cutD es l h))
section
variable {K : PySem.W.Frag} {ta tb te : TE} {f g : SEnv → Option PyData} {tl th : TO} {lo hi : SEnv → Option (Option Int)}
theorem po_no : Pof K tNoPart oNone := fun o ds x h σ H E W Q q => by
  cases h
  exact q H (Same.refl H) W
theorem po_is (h : Evf K ta f) : Pof K (tPart ta) (oSome f) := fun o ds x e σ H E W Q q => by
  obtain ⟨i, e1, e⟩ := bnd e
  obtain ⟨d, e2, e1⟩ := bnd e1
  cases e
  cases asI_eq e1
  exact h o ds _ e2 σ H E W _ fun v H2 x2 W2 y => ⟨i, dd_int y, q H2 x2 W2⟩
theorem xf_slT (h : Evf K ta f) (h1 : Pof K tl lo) (h2 : Pof K th hi) : Evf K (tSl (rSlA K) ta tl th) (fSlT f lo hi) := fun o ds d e σ H E W Q q => by
  obtain ⟨es, a, e⟩ := bnd e
  obtain ⟨l, b, e⟩ := bnd e
  obtain ⟨u, c, e⟩ := bnd e
  cases e
  refine h o ds _ (wkT_eq a) σ H E W _ fun v H1 e1 W1 x => h1 o ds _ b σ H1 (E.mono (ex_hide e1)) W1 _ fun H2 e2 W2 => h2 o ds _ c σ H2 (E.mono (ex_hide (e1.trans e2))) W2 _ fun H3 e3 W3 => ?_
  obtain ⟨p, xs, rfl, hq, t⟩ := dd_tup (x.mono (ex_hide (e2.trans e3)))
  refine ⟨p, xs, rfl, ex_sqT hide_ex hq, fun w => ?_, fun _ n hn => ?_⟩
  · have w1 := w.1
    have w2 := w.2
    rw [t.length] at w1 w2
    refine q _ H3 (e1.trans (e2.trans e3)) W3 ?_
    have z : cutD es l u = es := by
      unfold cutD
      rw [w1, w2, List.drop_zero, Nat.sub_zero, List.take_length]
    rw [z]
    exact .tup hq t
  · exact q _ _ (e1.trans (e2.trans (e3.trans (ex_new hn)))) (ow_mono W3 (ex_new hn)) (.tup (SqT.of (hide_new W3 hn)) ((dds_cut t l u).mono (ex_hide (ex_new hn))))
end
def lcGo2 (gt : SEnv → PyData → Option SEnv) (q1 : SEnv → Option (List PyData)) (gt1 : SEnv → PyData → Option SEnv) (f : SEnv → Option PyData) (vs1 : List Nat) (w : SEnv) : List PyData → Option (List PyData)
  | [] => some []
  | x :: xs => (gt w x).bind fun d1 => (q1 d1).bind fun ys => (lcGo gt1 fYes f (wipeD d1 vs1) ys).bind fun us => (lcGo2 gt q1 gt1 f vs1 w xs).bind fun rs => some (us ++ rs)
def fLc2 (q : SEnv → Option (List PyData)) (gt : SEnv → PyData → Option SEnv) (q1 : SEnv → Option (List PyData)) (gt1 : SEnv → PyData → Option SEnv) (f : SEnv → Option PyData) (vs vs1 : List Nat) : SEnv → Option PyData := fun ds => (q ds).bind fun xs =>
  (lcGo2 gt q1 gt1 f vs1 (wipeD ds vs) xs).bind fun ys => if ys.length ≤ 1000000 then some (.list ys) else none
section
variable {K : PySem.W.Frag} {te : TE} {f : SEnv → Option PyData} {wi wi1 : TI} {q q1 : SEnv → Option (List PyData)} {tg tg1 : TG} {gt gt1 : SEnv → PyData → Option SEnv}
theorem gw_use {vs : List Nat} {x : V} {σ : L2.St} {H : Hp} {Q : L2.St → Hp → Prop} (hw : GtW tg vs) (h : tg x (L2.wipe σ vs) H Q) : tg x (L2.wipe σ vs) H fun σ' H' => L2.wipe σ' vs = L2.wipe σ vs ∧ Q σ' H' := by
  have z := hw x (L2.wipe σ vs) H Q h
  rw [wipe_wipe fun v hv => hv] at z
  exact z
theorem xf_lc2 {vs vs1 : List Nat} (hi : Eif K wi q) (hg : Gtf K tg gt) (hw : GtW tg vs) (hi1 : Eif K wi1 q1) (hg1 : Gtf K tg1 gt1) (hw1 : GtW tg1 vs1) (he : Evf K te f) : Evf K (tLc2 wi tg tYes wi1 tg1 tYes te vs vs1) (fLc2 q gt q1 gt1 f vs vs1) := fun o ds d h => by
  obtain ⟨xs, a, h⟩ := bnd h
  obtain ⟨R, b, h⟩ := bnd h
  obtain ⟨lR, rfl⟩ := ite_some h
  intro σ H E W Q k
  refine hi o ds xs a σ H E W _ fun J H1 e1 W1 it D nD => ?_
  have nDo : D ∉ o := ow_new W1 nD
  have hG : ∀ {H' : Hp}, (∀ a x, a ≠ D → H1 a = some x → H' a = some x) → Ex (hide H1 o) (hide H' (D :: o)) := fun {H'} k a x z => by
    obtain ⟨cc, z⟩ := hide_some z
    have n : a ≠ D := ne_of_none z nD
    rw [hide_out (fun m => by rcases List.mem_cons.mp m with m | m; exact n m; exact cc m)]
    exact k a x n z
  have own : ∀ {H2 : Hp} {acc : List V}, Ex H1 H2 → H2 D = some (.lst acc) → Owned H2 (D :: o) := fun {H2 acc} ex2 hD a ha => by
    rcases List.mem_cons.mp ha with rfl | ha
    · exact ⟨_, hD, True.intro⟩
    · exact ow_mono W1 ex2 a ha
  refine ⟨fun i m H2 => m = xs.length - i ∧ i ≤ xs.length ∧ Ex H1 H2 ∧ ∃ acc us rs, H2 D = some (.lst acc) ∧ DDs K (hide H2 (D :: o)) acc us ∧ lcGo2 gt q1 gt1 f vs1 (wipeD ds vs) (xs.drop i) = some rs ∧ R = us ++ rs, ⟨xs.length, rfl, Nat.zero_le _, ex_new nD, [], [], R, upd_same, .nil, b, rfl⟩, fun i m H2 w => ?_⟩
  obtain ⟨rfl, hi', ex2, acc, us, rs, hD, t, hr, eR⟩ := w
  have W2 := own ex2 hD
  have G2 : Ex (hide H1 o) (hide H2 (D :: o)) := hG fun a x _ z => ex2 a x z
  by_cases cl : i < xs.length
  · obtain ⟨e, he'⟩ : ∃ e, xs[i]? = some e := ⟨_, List.getElem?_eq_getElem cl⟩
    obtain ⟨go, yl⟩ := (it H2 (D :: o) G2 W2 i).1 e he'
    have dr : xs.drop i = e :: xs.drop (i + 1) := by
      obtain ⟨l, z⟩ := List.getElem?_eq_some_iff.mp he'
      rw [List.drop_eq_getElem_cons l, z]
    rw [dr] at hr
    obtain ⟨d1, g1, hr⟩ := bnd hr
    obtain ⟨ys, g2, hr⟩ := bnd hr
    obtain ⟨ws, g3, hr⟩ := bnd hr
    obtain ⟨rs', g4, hr⟩ := bnd hr
    cases hr
    refine .inr ⟨go, fun H3 => Ex H1 H3 ∧ ∃ acc us rs, H3 D = some (.lst acc) ∧ DDs K (hide H3 (D :: o)) acc us ∧ lcGo2 gt q1 gt1 f vs1 (wipeD ds vs) (xs.drop (i + 1)) = some rs ∧ R = us ++ rs, fun H' n => ⟨xs.length - (i + 1), by omega, rfl, cl, n.1, n.2⟩, fun x H' y => ?_⟩
    obtain ⟨ex3, hx⟩ := yl x H' y
    have W3 := ow_mono W2 ex3
    have E3 : En K (hide H' (D :: o)) (L2.wipe σ vs) (wipeD ds vs) := ((E.mono (ex_hide e1)).mono (G2.trans (ex_hide ex3))).wipe vs
    refine gw_use hw ?_
    refine hg _ _ _ g1 x (L2.wipe σ vs) H' (D :: o) hx E3 _ fun σ2 E4 => ?in_
    case in_ =>
      show wi1 σ2 H' _
      refine hi1 (D :: o) d1 ys g2 σ2 H' E4 W3 _ fun J1 H4 e4 W4 it1 => ?_
      have ex14 : Ex H1 H4 := ex2.trans (ex3.trans e4)
      refine ⟨fun j m H5 => m = ys.length - j ∧ j ≤ ys.length ∧ Ex (hide H4 (D :: o)) (hide H5 (D :: o)) ∧ Ex H1 H5 ∧ ∃ acc us zs, H5 D = some (.lst acc) ∧ DDs K (hide H5 (D :: o)) acc us ∧ lcGo gt1 fYes f (wipeD d1 vs1) (ys.drop j) = some zs ∧ R = us ++ (zs ++ rs'),
        ⟨ys.length, rfl, Nat.zero_le _, Same.refl _, ex14, acc, us, ws, e4 _ _ (ex3 _ _ hD), t.mono (ex_hide (ex3.trans e4)), g3, eR⟩, fun j m H5 w1 => ?_⟩
      obtain ⟨rfl, hj, G5, ex5, acc5, us5, zs, hD5, t5, hz, eR5⟩ := w1
      have W5 := own ex5 hD5
      by_cases cj : j < ys.length
      · obtain ⟨e5, he5⟩ : ∃ e, ys[j]? = some e := ⟨_, List.getElem?_eq_getElem cj⟩
        obtain ⟨go1, yl1⟩ := (it1 H5 (D :: o) G5 W5 j).1 e5 he5
        have dr5 : ys.drop j = e5 :: ys.drop (j + 1) := by
          obtain ⟨l, z⟩ := List.getElem?_eq_some_iff.mp he5
          rw [List.drop_eq_getElem_cons l, z]
        rw [dr5] at hz
        obtain ⟨d2, k1, hz⟩ := bnd hz
        obtain ⟨bb, k2, hz⟩ := bnd hz
        cases k2
        obtain ⟨yv, k3, hz⟩ := bnd hz
        obtain ⟨zs', k4, hz⟩ := bnd hz
        cases hz
        refine .inr ⟨go1, fun H6 => Ex (hide H4 (D :: o)) (hide H6 (D :: o)) ∧ Ex H1 H6 ∧ ∃ acc us zs, H6 D = some (.lst acc) ∧ DDs K (hide H6 (D :: o)) acc us ∧ lcGo gt1 fYes f (wipeD d1 vs1) (ys.drop (j + 1)) = some zs ∧ R = us ++ (zs ++ rs'), fun H' n => ⟨ys.length - (j + 1), by omega, rfl, cj, n.1, n.2.1, n.2.2⟩, fun x6 H6 y6 => ?_⟩
        obtain ⟨ex6, hx6⟩ := yl1 x6 H6 y6
        have W6 := ow_mono W5 ex6
        have E6 : En K (hide H6 (D :: o)) (L2.wipe σ2 vs1) (wipeD d1 vs1) := ((E4.mono (ex_hide e4)).mono (G5.trans (ex_hide ex6))).wipe vs1
        refine gw_use hw1 ?_
        refine hg1 _ _ _ k1 x6 (L2.wipe σ2 vs1) H6 (D :: o) hx6 E6 _ fun σ3 E7 => ?in2
        case in2 =>
          show te σ3 H6 _
          refine he (D :: o) d2 yv k3 σ3 H6 E7 W6 _ fun v7 H7 ex7 W7 hv => ?_
          have hD7 := ex7 _ _ (ex6 _ _ hD5)
          have hh : hide (upd H7 D (.lst (acc5 ++ [v7]))) (D :: o) = hide H7 (D :: o) := by
            funext a
            by_cases m : a ∈ D :: o
            · rw [hide_in m, hide_in m]
            · rw [hide_out m, hide_out m, upd_ne (fun z => m (by rw [z]; exact List.mem_cons_self))]
          refine ⟨acc5, hD7, ?_, ?_, fun a x h => ?_, acc5 ++ [v7], us5 ++ [yv], zs', upd_same, ?_, k4, ?_⟩
          · rw [t5.length]
            have l := congrArg List.length eR5
            rw [List.length_append, List.length_append, List.length_cons] at l
            exact Nat.lt_of_lt_of_le (show us5.length < 1000000 by omega) mil
          · rw [hh]
            exact G5.trans (ex_hide (ex6.trans ex7))
          · rw [upd_ne (ne_of_none h nD)]
            exact ex7 _ _ (ex6 _ _ (ex5 _ _ h))
          · rw [hh]
            exact (t5.mono (ex_hide (ex6.trans ex7))).append (.cons hv .nil)
          · rw [eR5, List.append_assoc]
            rfl
      · have ej : ys.drop j = [] := List.drop_eq_nil_of_le (by omega)
        rw [ej] at hz
        cases hz
        exact .inl ⟨(it1 H5 (D :: o) G5 W5 j).2 (by omega), ex5, acc5, us5, rs', hD5, t5, g4, eR5⟩
  · have ei : xs.drop i = [] := List.drop_eq_nil_of_le (by omega)
    rw [ei] at hr
    cases hr
    rw [List.append_nil] at eR
    subst eR
    refine .inl ⟨(it H2 (D :: o) G2 W2 i).2 (by omega), k _ H2 (e1.trans ex2) (ow_mono W1 ex2) (.lst (by rw [hide_out nDo]; exact hD) (t.mono fun a x z => ?_))⟩
    obtain ⟨c2, z⟩ := hide_some z
    rw [hide_out (fun m => c2 (List.mem_cons_of_mem _ m))]
    exact z
end
end Ph
namespace K13
open PySem PySem.Spec PyProof.Rows L2 Ph
def top (i : Nat) : Stmt := PySem.Challenge.pw_placehues_k13_whole_books_bent.main.body.getD i (.Pass ⟨0, 0, 0, 0⟩)
structure Blt2 (mg : Str → Option Value) : Prop where
  set : mg "set" = none
  min : mg "min" = none
section
variable {P : Program} {w : World} {K : PySem.W.Frag} {mg : Str → Option Value} {base : Heap}
abbrev s_is_number : Stmt := top 1
abbrev N_is_number : List Str := ["thing"]
theorem sc_is_number : FnScope N_is_number ["thing"] (defScope s_is_number) := ⟨rfl, rfl, rfl, by decide +kernel, rfl, by decide +kernel, by decide +kernel⟩
def F_is_number : List PyData → Option PyData := defF N_is_number (sRet (fAnd (fIs isInt (fVar 0)) (fNot (fIs isBool (fVar 0)))))
theorem ok_is_number {f : Addr} {fd : FuncData} (F : Fun K "is_number" "is_number" s_is_number f fd) (T : Blt mg) (Z : Blt2 mg)  : FnOk P w K mg base CX0 1 f fd ["thing"] (spD K 1 fun as d => F_is_number as = some d) := by
  refine fn_F F sc_is_number rfl fun cdv A outer s H E hr => ?_
  have hu64 : (A.deeper (envOfC "is_number" (defScope s_is_number) s.heap.objs.size f cdv)).units + 64 < cLine := hr.units
  exact ⟨_, (pss_one (ps_ret (pe_and (pe_callB call_isi (by rfl) T.isinstance PyProof.Rows.boot_isinstance (pa_cons (pv 0) (pa_cons (pe_bltn (v := .ty "int") (by rfl) T.int (by decide +kernel) rfl) pa_nil))) (pe_one (pe_not (pe_callB call_isi (by rfl) T.isinstance PyProof.Rows.boot_isinstance (pa_cons (pv 0) (pa_cons (pe_bltn (v := .ty "bool") (by rfl) T.bool (by decide +kernel) rfl) pa_nil)))))))), (sf_ret (xf_and (xf_is_int xf_var) (xf_not (xf_is_bool xf_var))))⟩
abbrev s_is_tuple_of : Stmt := top 2
abbrev N_is_tuple_of : List Str := ["thing", "many"]
theorem sc_is_tuple_of : FnScope N_is_tuple_of ["thing", "many"] (defScope s_is_tuple_of) := ⟨rfl, rfl, rfl, by decide +kernel, rfl, by decide +kernel, by decide +kernel⟩
def F_is_tuple_of : List PyData → Option PyData := defF N_is_tuple_of (sRet (fAnd (fIs isTuple (fVar 0)) (fOp gEqI (fCB hLen (fCons (fVar 0) fNil)) (fVar 1))))
theorem ok_is_tuple_of {f : Addr} {fd : FuncData} (F : Fun K "is_tuple_of" "is_tuple_of" s_is_tuple_of f fd) (T : Blt mg) (Z : Blt2 mg)  : FnOk P w K mg base CX0 1 f fd ["thing", "many"] (spD K 2 fun as d => F_is_tuple_of as = some d) := by
  refine fn_F F sc_is_tuple_of rfl fun cdv A outer s H E hr => ?_
  have hu64 : (A.deeper (envOfC "is_tuple_of" (defScope s_is_tuple_of) s.heap.objs.size f cdv)).units + 64 < cLine := hr.units
  exact ⟨_, (pss_one (ps_ret (pe_and (pe_callB call_isi (by rfl) T.isinstance PyProof.Rows.boot_isinstance (pa_cons (pv 0) (pa_cons (pe_bltn (v := .ty "tuple") (by rfl) T.tuple (by decide +kernel) rfl) pa_nil))) (pe_one (pe_cmpR op_eq (pe_callB call_len_seq (by rfl) T.len PySem.boot_len (pa_cons (pv 0) pa_nil)) (pv 1) (nomark _)))))), (sf_ret (xf_and (xf_is_tuple xf_var) (xf_op (xf_cb (af_cons xf_var af_nil) hf_len) xf_var of_eqI)))⟩
abbrev s_has_numbers : Stmt := top 3
abbrev N_has_numbers : List Str := ["thing", "own"]
theorem sc_has_numbers : FnScope N_has_numbers ["thing"] (defScope s_has_numbers) := ⟨rfl, rfl, rfl, by decide +kernel, rfl, by decide +kernel, by decide +kernel⟩
def F_has_numbers : List PyData → Option PyData := defF N_has_numbers (sRet (fAnd (fIs isTuple (fVar 0)) (fCB hAll (fCons (fLc (wkT (fVar 0)) (tgName 1) fYes (fCall 1 F_is_number (fCons (fVar 1) fNil)) [1]) fNil))))
theorem ok_has_numbers {f : Addr} {fd : FuncData} (F : Fun K "has_numbers" "has_numbers" s_has_numbers f fd) (T : Blt mg) (Z : Blt2 mg) (C_is_number : Cal P w K mg base "is_number" 1 ["thing"] (spD K 1 fun as d => F_is_number as = some d)) : FnOk P w K mg base CX0 2 f fd ["thing"] (spD K 1 fun as d => F_has_numbers as = some d) := by
  refine fn_F F sc_has_numbers rfl fun cdv A outer s H E hr => ?_
  have hu64 : (A.deeper (envOfC "has_numbers" (defScope s_has_numbers) s.heap.objs.size f cdv)).units + 64 < cLine := hr.units
  exact ⟨_, (pss_one (ps_ret (pe_and (pe_callB call_isi (by rfl) T.isinstance PyProof.Rows.boot_isinstance (pa_cons (pv 0) (pa_cons (pe_bltn (v := .ty "tuple") (by rfl) T.tuple (by decide +kernel) rfl) pa_nil))) (pe_one (pe_callB (cr_all rfl) (by rfl) T.all (by decide +kernel) (pa_cons (pe_lc (own := [("own", 1)]) (g := (gName 1)) (tt := tYes) (te := (tCall (spHide _) [] E0 (tCons (tVar 1) tNil))) rfl sc_has_numbers.nd (pi_tup (pv 0)) (blkOk_by (N := N_has_numbers) (sc := defScope s_has_numbers) (by decide +kernel)) (fun _ _ _ _ _ => by exact (pg_name (i := 1) sc_has_numbers.nd rfl (Or.inl rfl))) (fun _ _ _ _ _ => by exact pts_nil) (fun _ _ _ _ _ => by exact (pe_cal C_is_number (hr.mono (by decide)) (by rfl) (pa_cons (pv 1) pa_nil)))) pa_nil)))))), (sf_ret (xf_and (xf_is_tuple xf_var) (xf_cb (af_cons (xf_lc (wf_tup xf_var) gf_name (gw_name (by simp)) bf_yes (xf_call (af_cons xf_var af_nil))) af_nil) hf_all)))⟩
abbrev s_has_numbers_from : Stmt := top 4
abbrev N_has_numbers_from : List Str := ["thing", "low", "own"]
theorem sc_has_numbers_from : FnScope N_has_numbers_from ["thing", "low"] (defScope s_has_numbers_from) := ⟨rfl, rfl, rfl, by decide +kernel, rfl, by decide +kernel, by decide +kernel⟩
def F_has_numbers_from : List PyData → Option PyData := defF N_has_numbers_from (sRet (fAnd (fCall 1 F_has_numbers (fCons (fVar 0) fNil)) (fCB hAll (fCons (fLc (wkT (fVar 0)) (tgName 2) fYes (fOp gGe (fVar 2) (fVar 1)) [2]) fNil))))
theorem ok_has_numbers_from {f : Addr} {fd : FuncData} (F : Fun K "has_numbers_from" "has_numbers_from" s_has_numbers_from f fd) (T : Blt mg) (Z : Blt2 mg) (C_has_numbers : Cal P w K mg base "has_numbers" 2 ["thing"] (spD K 1 fun as d => F_has_numbers as = some d)) : FnOk P w K mg base CX0 3 f fd ["thing", "low"] (spD K 2 fun as d => F_has_numbers_from as = some d) := by
  refine fn_F F sc_has_numbers_from rfl fun cdv A outer s H E hr => ?_
  have hu64 : (A.deeper (envOfC "has_numbers_from" (defScope s_has_numbers_from) s.heap.objs.size f cdv)).units + 64 < cLine := hr.units
  exact ⟨_, (pss_one (ps_ret (pe_and (pe_cal C_has_numbers (hr.mono (by decide)) (by rfl) (pa_cons (pv 0) pa_nil)) (pe_one (pe_callB (cr_all rfl) (by rfl) T.all (by decide +kernel) (pa_cons (pe_lc (own := [("own", 2)]) (g := (gName 2)) (tt := tYes) (te := (tOp _ (tVar 2) (tVar 1))) rfl sc_has_numbers_from.nd (pi_tup (pv 0)) (blkOk_by (N := N_has_numbers_from) (sc := defScope s_has_numbers_from) (by decide +kernel)) (fun _ _ _ _ _ => by exact (pg_name (i := 2) sc_has_numbers_from.nd rfl (Or.inl rfl))) (fun _ _ _ _ _ => by exact pts_nil) (fun _ _ _ _ _ => by exact (pe_cmpR op_ge (pv 2) (pv 1) (nomark _)))) pa_nil)))))), (sf_ret (xf_and (xf_call (af_cons xf_var af_nil)) (xf_cb (af_cons (xf_lc (wf_tup xf_var) gf_name (gw_name (by simp)) bf_yes (xf_op xf_var xf_var of_ge)) af_nil) hf_all)))⟩
abbrev s_has_numbers_between : Stmt := top 5
abbrev N_has_numbers_between : List Str := ["thing", "low", "high", "own"]
theorem sc_has_numbers_between : FnScope N_has_numbers_between ["thing", "low", "high"] (defScope s_has_numbers_between) := ⟨rfl, rfl, rfl, by decide +kernel, rfl, by decide +kernel, by decide +kernel⟩
def F_has_numbers_between : List PyData → Option PyData := defF N_has_numbers_between (sRet (fAnd (fCall 2 F_has_numbers_from (fCons (fVar 0) (fCons (fVar 1) fNil))) (fCB hAll (fCons (fLc (wkT (fVar 0)) (tgName 3) fYes (fOp gLe (fVar 3) (fVar 2)) [3]) fNil))))
theorem ok_has_numbers_between {f : Addr} {fd : FuncData} (F : Fun K "has_numbers_between" "has_numbers_between" s_has_numbers_between f fd) (T : Blt mg) (Z : Blt2 mg) (C_has_numbers_from : Cal P w K mg base "has_numbers_from" 3 ["thing", "low"] (spD K 2 fun as d => F_has_numbers_from as = some d)) : FnOk P w K mg base CX0 4 f fd ["thing", "low", "high"] (spD K 3 fun as d => F_has_numbers_between as = some d) := by
  refine fn_F F sc_has_numbers_between rfl fun cdv A outer s H E hr => ?_
  have hu64 : (A.deeper (envOfC "has_numbers_between" (defScope s_has_numbers_between) s.heap.objs.size f cdv)).units + 64 < cLine := hr.units
  exact ⟨_, (pss_one (ps_ret (pe_and (pe_cal C_has_numbers_from (hr.mono (by decide)) (by rfl) (pa_cons (pv 0) (pa_cons (pv 1) pa_nil))) (pe_one (pe_callB (cr_all rfl) (by rfl) T.all (by decide +kernel) (pa_cons (pe_lc (own := [("own", 3)]) (g := (gName 3)) (tt := tYes) (te := (tOp _ (tVar 3) (tVar 2))) rfl sc_has_numbers_between.nd (pi_tup (pv 0)) (blkOk_by (N := N_has_numbers_between) (sc := defScope s_has_numbers_between) (by decide +kernel)) (fun _ _ _ _ _ => by exact (pg_name (i := 3) sc_has_numbers_between.nd rfl (Or.inl rfl))) (fun _ _ _ _ _ => by exact pts_nil) (fun _ _ _ _ _ => by exact (pe_cmpR op_le (pv 3) (pv 2) (nomark _)))) pa_nil)))))), (sf_ret (xf_and (xf_call (af_cons xf_var (af_cons xf_var af_nil))) (xf_cb (af_cons (xf_lc (wf_tup xf_var) gf_name (gw_name (by simp)) bf_yes (xf_op xf_var xf_var of_le)) af_nil) hf_all)))⟩
abbrev s__is_flag : Stmt := top 11
abbrev N__is_flag : List Str := ["thing", "many"]
theorem sc__is_flag : FnScope N__is_flag ["thing", "many"] (defScope s__is_flag) := ⟨rfl, rfl, rfl, by decide +kernel, rfl, by decide +kernel, by decide +kernel⟩
def F__is_flag : List PyData → Option PyData := defF N__is_flag (sRet (fAnd (fCall 1 F_is_number (fCons (fVar 0) fNil)) (fChain gLe gLt (fC (.int 0)) (fVar 0) (fVar 1))))
theorem ok__is_flag {f : Addr} {fd : FuncData} (F : Fun K "_is_flag" "_is_flag" s__is_flag f fd) (T : Blt mg) (Z : Blt2 mg) (C_is_number : Cal P w K mg base "is_number" 1 ["thing"] (spD K 1 fun as d => F_is_number as = some d)) : FnOk P w K mg base CX0 2 f fd ["thing", "many"] (spD K 2 fun as d => F__is_flag as = some d) := by
  refine fn_F F sc__is_flag rfl fun cdv A outer s H E hr => ?_
  have hu64 : (A.deeper (envOfC "_is_flag" (defScope s__is_flag) s.heap.objs.size f cdv)).units + 64 < cLine := hr.units
  exact ⟨_, (pss_one (ps_ret (pe_and (pe_cal C_is_number (hr.mono (by decide)) (by rfl) (pa_cons (pv 0) pa_nil)) (pe_one (pe_chain op_le op_lt pe_int (pv 0) (pv 1)))))), (sf_ret (xf_and (xf_call (af_cons xf_var af_nil)) (xf_chain xf_int xf_var xf_var of_le of_lt)))⟩
abbrev s__is_hue_of : Stmt := top 12
abbrev N__is_hue_of : List Str := ["thing", "hues", "letter"]
theorem sc__is_hue_of : FnScope N__is_hue_of ["thing", "hues", "letter"] (defScope s__is_hue_of) := ⟨rfl, rfl, rfl, by decide +kernel, rfl, by decide +kernel, by decide +kernel⟩
def F__is_hue_of : List PyData → Option PyData := defF N__is_hue_of (sRet (fAnd (fCall 1 F_is_number (fCons (fVar 0) fNil)) (fAnd (fChain gLe gLt (fC (.int 0)) (fVar 0) (fCB hLen (fCons (fVar 1) fNil))) (fOp gEqI (fOp gIxT (fVar 1) (fVar 0)) (fVar 2)))))
theorem ok__is_hue_of {f : Addr} {fd : FuncData} (F : Fun K "_is_hue_of" "_is_hue_of" s__is_hue_of f fd) (T : Blt mg) (Z : Blt2 mg) (C_is_number : Cal P w K mg base "is_number" 1 ["thing"] (spD K 1 fun as d => F_is_number as = some d)) : FnOk P w K mg base CX0 2 f fd ["thing", "hues", "letter"] (spD K 3 fun as d => F__is_hue_of as = some d) := by
  refine fn_F F sc__is_hue_of rfl fun cdv A outer s H E hr => ?_
  have hu64 : (A.deeper (envOfC "_is_hue_of" (defScope s__is_hue_of) s.heap.objs.size f cdv)).units + 64 < cLine := hr.units
  exact ⟨_, (pss_one (ps_ret (pe_and (pe_cal C_is_number (hr.mono (by decide)) (by rfl) (pa_cons (pv 0) pa_nil)) (pe_and (pe_chain op_le op_lt pe_int (pv 0) (pe_callB call_len_seq (by rfl) T.len PySem.boot_len (pa_cons (pv 1) pa_nil))) (pe_one (pe_cmpR op_eq (pe_ix ix_tup (pv 1) (pv 0) (fun _ _ => rfl)) (pv 2) (nomark _))))))), (sf_ret (xf_and (xf_call (af_cons xf_var af_nil)) (xf_and (xf_chain xf_int xf_var (xf_cb (af_cons xf_var af_nil) hf_len) of_le of_lt) (xf_op (xf_op xf_var xf_var of_ixT) xf_var of_eqI))))⟩
abbrev s_is_answers : Stmt := top 6
abbrev N_is_answers : List Str := ["thing", "own"]
theorem sc_is_answers : FnScope N_is_answers ["thing"] (defScope s_is_answers) := ⟨rfl, rfl, rfl, by decide +kernel, rfl, by decide +kernel, by decide +kernel⟩
def F_is_answers : List PyData → Option PyData := defF N_is_answers (sRet (fAnd (fIs isTuple (fVar 0)) (fAnd (fOp gGt (fCB hLen (fCons (fVar 0) fNil)) (fC (.int 0))) (fCB hAll (fCons (fLc (wkT (fVar 0)) (tgName 1) fYes (fIs isBool (fVar 1)) [1]) fNil)))))
theorem ok_is_answers {f : Addr} {fd : FuncData} (F : Fun K "is_answers" "is_answers" s_is_answers f fd) (T : Blt mg) (Z : Blt2 mg)  : FnOk P w K mg base CX0 1 f fd ["thing"] (spD K 1 fun as d => F_is_answers as = some d) := by
  refine fn_F F sc_is_answers rfl fun cdv A outer s H E hr => ?_
  have hu64 : (A.deeper (envOfC "is_answers" (defScope s_is_answers) s.heap.objs.size f cdv)).units + 64 < cLine := hr.units
  exact ⟨_, (pss_one (ps_ret (pe_and (pe_callB call_isi (by rfl) T.isinstance PyProof.Rows.boot_isinstance (pa_cons (pv 0) (pa_cons (pe_bltn (v := .ty "tuple") (by rfl) T.tuple (by decide +kernel) rfl) pa_nil))) (pe_and (pe_cmpR op_gt (pe_callB call_len_seq (by rfl) T.len PySem.boot_len (pa_cons (pv 0) pa_nil)) pe_int (nomark _)) (pe_one (pe_callB (cr_all rfl) (by rfl) T.all (by decide +kernel) (pa_cons (pe_lc (own := [("own", 1)]) (g := (gName 1)) (tt := tYes) (te := (tCB (rIsi K) (tCons (tVar 1) (tCons (tC (.ty "bool")) tNil)))) rfl sc_is_answers.nd (pi_tup (pv 0)) (blkOk_by (N := N_is_answers) (sc := defScope s_is_answers) (by decide +kernel)) (fun _ _ _ _ _ => by exact (pg_name (i := 1) sc_is_answers.nd rfl (Or.inl rfl))) (fun _ _ _ _ _ => by exact pts_nil) (fun _ _ _ _ _ => by exact (pe_callB call_isi (by rfl) T.isinstance PyProof.Rows.boot_isinstance (pa_cons (pv 1) (pa_cons (pe_bltn (v := .ty "bool") (by rfl) T.bool (by decide +kernel) rfl) pa_nil))))) pa_nil))))))), (sf_ret (xf_and (xf_is_tuple xf_var) (xf_and (xf_op (xf_cb (af_cons xf_var af_nil) hf_len) xf_int of_gt) (xf_cb (af_cons (xf_lc (wf_tup xf_var) gf_name (gw_name (by simp)) bf_yes (xf_is_bool xf_var)) af_nil) hf_all))))⟩
abbrev s__is_hues : Stmt := top 9
abbrev N__is_hues : List Str := ["thing"]
theorem sc__is_hues : FnScope N__is_hues ["thing"] (defScope s__is_hues) := ⟨rfl, rfl, rfl, by decide +kernel, rfl, by decide +kernel, by decide +kernel⟩
def F__is_hues : List PyData → Option PyData := defF N__is_hues (sRet (fAnd (fCall 2 F_has_numbers_from (fCons (fVar 0) (fCons (fC (.int 0)) fNil))) (fAnd (fOp gGt (fCB hLen (fCons (fVar 0) fNil)) (fC (.int 0))) (fChain gLe gEqI (fC (.int 1)) (fCB hMaxT (fCons (fVar 0) fNil)) (fOp gSub (fLenSet (fVar 0)) (fC (.int 1)))))))
theorem ok__is_hues {f : Addr} {fd : FuncData} (F : Fun K "_is_hues" "_is_hues" s__is_hues f fd) (T : Blt mg) (Z : Blt2 mg) (C_has_numbers_from : Cal P w K mg base "has_numbers_from" 3 ["thing", "low"] (spD K 2 fun as d => F_has_numbers_from as = some d)) : FnOk P w K mg base CX0 4 f fd ["thing"] (spD K 1 fun as d => F__is_hues as = some d) := by
  refine fn_F F sc__is_hues rfl fun cdv A outer s H E hr => ?_
  have hu64 : (A.deeper (envOfC "_is_hues" (defScope s__is_hues) s.heap.objs.size f cdv)).units + 64 < cLine := hr.units
  exact ⟨_, (pss_one (ps_ret (pe_and (pe_cal C_has_numbers_from (hr.mono (by decide)) (by rfl) (pa_cons (pv 0) (pa_cons pe_int pa_nil))) (pe_and (pe_cmpR op_gt (pe_callB call_len_seq (by rfl) T.len PySem.boot_len (pa_cons (pv 0) pa_nil)) pe_int (nomark _)) (pe_one (pe_chain op_le op_eq pe_int (pe_callB (call_maxT rfl hu64) (by rfl) T.max (by decide +kernel) (pa_cons (pv 0) pa_nil)) (pe_op op_sub (pe_lenSetT (by rfl) T.len (by rfl) Z.set (pv 0)) pe_int))))))), (sf_ret (xf_and (xf_call (af_cons xf_var (af_cons xf_int af_nil))) (xf_and (xf_op (xf_cb (af_cons xf_var af_nil) hf_len) xf_int of_gt) (xf_chain xf_int (xf_cb (af_cons xf_var af_nil) hf_maxT) (xf_op (xf_lenSet xf_var) xf_int of_sub) of_le of_eqI))))⟩
abbrev s__is_begin : Stmt := top 10
abbrev N__is_begin : List Str := ["thing", "many", "hues"]
theorem sc__is_begin : FnScope N__is_begin ["thing", "many", "hues"] (defScope s__is_begin) := ⟨rfl, rfl, rfl, by decide +kernel, rfl, by decide +kernel, by decide +kernel⟩
def F__is_begin : List PyData → Option PyData := defF N__is_begin (sRet (fAnd (fCall 2 F_is_tuple_of (fCons (fVar 0) (fCons (fC (.int 2)) fNil))) (fAnd (fCall 2 F__is_flag (fCons (fOp gIxT (fVar 0) (fC (.int 0))) (fCons (fVar 1) fNil))) (fCall 3 F__is_hue_of (fCons (fOp gIxT (fVar 0) (fC (.int 1))) (fCons (fVar 2) (fCons (fC (.int 0)) fNil)))))))
theorem ok__is_begin {f : Addr} {fd : FuncData} (F : Fun K "_is_begin" "_is_begin" s__is_begin f fd) (T : Blt mg) (Z : Blt2 mg) (C_is_tuple_of : Cal P w K mg base "is_tuple_of" 1 ["thing", "many"] (spD K 2 fun as d => F_is_tuple_of as = some d)) (C__is_flag : Cal P w K mg base "_is_flag" 2 ["thing", "many"] (spD K 2 fun as d => F__is_flag as = some d)) (C__is_hue_of : Cal P w K mg base "_is_hue_of" 2 ["thing", "hues", "letter"] (spD K 3 fun as d => F__is_hue_of as = some d)) : FnOk P w K mg base CX0 3 f fd ["thing", "many", "hues"] (spD K 3 fun as d => F__is_begin as = some d) := by
  refine fn_F F sc__is_begin rfl fun cdv A outer s H E hr => ?_
  have hu64 : (A.deeper (envOfC "_is_begin" (defScope s__is_begin) s.heap.objs.size f cdv)).units + 64 < cLine := hr.units
  exact ⟨_, (pss_one (ps_ret (pe_and (pe_cal C_is_tuple_of (hr.mono (by decide)) (by rfl) (pa_cons (pv 0) (pa_cons pe_int pa_nil))) (pe_and (pe_cal C__is_flag (hr.mono (by decide)) (by rfl) (pa_cons (pe_ix ix_tup (pv 0) pe_int (fun _ _ => rfl)) (pa_cons (pv 1) pa_nil))) (pe_one (pe_cal C__is_hue_of (hr.mono (by decide)) (by rfl) (pa_cons (pe_ix ix_tup (pv 0) pe_int (fun _ _ => rfl)) (pa_cons (pv 2) (pa_cons pe_int pa_nil))))))))), (sf_ret (xf_and (xf_call (af_cons xf_var (af_cons xf_int af_nil))) (xf_and (xf_call (af_cons (xf_op xf_var xf_int of_ixT) (af_cons xf_var af_nil))) (xf_call (af_cons (xf_op xf_var xf_int of_ixT) (af_cons xf_var (af_cons xf_int af_nil)))))))⟩
abbrev s__is_map : Stmt := top 16
abbrev N__is_map : List Str := ["thing", "hues", "own"]
theorem sc__is_map : FnScope N__is_map ["thing", "hues"] (defScope s__is_map) := ⟨rfl, rfl, rfl, by decide +kernel, rfl, by decide +kernel, by decide +kernel⟩
def F__is_map : List PyData → Option PyData := defF N__is_map (sRet (fAnd (fCall 3 F_has_numbers_between (fCons (fVar 0) (fCons (fC (.int 0)) (fCons (fOp gSub (fCB hLen (fCons (fVar 1) fNil)) (fC (.int 1))) fNil)))) (fOp gEqD (fCB hTup (fCons (fLc (wkT (fVar 0)) (tgName 2) fYes (fOp gIxT (fVar 1) (fVar 2)) [2]) fNil)) (fVar 1))))
theorem ok__is_map {f : Addr} {fd : FuncData} (F : Fun K "_is_map" "_is_map" s__is_map f fd) (T : Blt mg) (Z : Blt2 mg) (C_has_numbers_between : Cal P w K mg base "has_numbers_between" 4 ["thing", "low", "high"] (spD K 3 fun as d => F_has_numbers_between as = some d)) : FnOk P w K mg base CX0 5 f fd ["thing", "hues"] (spD K 2 fun as d => F__is_map as = some d) := by
  refine fn_F F sc__is_map rfl fun cdv A outer s H E hr => ?_
  have hu64 : (A.deeper (envOfC "_is_map" (defScope s__is_map) s.heap.objs.size f cdv)).units + 64 < cLine := hr.units
  exact ⟨_, (pss_one (ps_ret (pe_and (pe_cal C_has_numbers_between (hr.mono (by decide)) (by rfl) (pa_cons (pv 0) (pa_cons pe_int (pa_cons (pe_op op_sub (pe_callB call_len_seq (by rfl) T.len PySem.boot_len (pa_cons (pv 1) pa_nil)) pe_int) pa_nil)))) (pe_one (pe_cmpR (op_eqD hu64) (pe_callTy call_tuple_of (by rfl) T.tuple (by decide +kernel) (pa_cons (pe_lc (own := [("own", 2)]) (g := (gName 2)) (tt := tYes) (te := (tOp (rIxT K) (tVar 1) (tVar 2))) rfl sc__is_map.nd (pi_tup (pv 0)) (blkOk_by (N := N__is_map) (sc := defScope s__is_map) (by decide +kernel)) (fun _ _ _ _ _ => by exact (pg_name (i := 2) sc__is_map.nd rfl (Or.inl rfl))) (fun _ _ _ _ _ => by exact pts_nil) (fun _ _ _ _ _ => by exact (pe_ix ix_tup (pv 1) (pv 2) (fun _ _ => rfl)))) pa_nil)) (pv 1) (nomark _)))))), (sf_ret (xf_and (xf_call (af_cons xf_var (af_cons xf_int (af_cons (xf_op (xf_cb (af_cons xf_var af_nil) hf_len) xf_int of_sub) af_nil)))) (xf_op (xf_cb (af_cons (xf_lc (wf_tup xf_var) gf_name (gw_name (by simp)) bf_yes (xf_op xf_var xf_var of_ixT)) af_nil) hf_tup) xf_var of_eqD)))⟩
abbrev s__is_row : Stmt := top 15
abbrev N__is_row : List Str := ["thing", "letter", "many", "hues", "flag", "own", "left", "right"]
theorem sc__is_row : FnScope N__is_row ["thing", "letter", "many", "hues"] (defScope s__is_row) := ⟨rfl, rfl, rfl, by decide +kernel, rfl, by decide +kernel, by decide +kernel⟩
def F__is_row : List PyData → Option PyData := defF N__is_row (sSeq (sIf (fNotT (fTest (fCall 2 F_is_tuple_of (fCons (fVar 0) (fCons (fC (.int 4)) fNil))))) (sRet (fC (.bool false))) sSkip)
      (sSeq (sAsg (fVar 0) (tgFour 4 5 6 7))
      (sSeq (sIf (fOrT (fNotT (fTest (fCall 2 F__is_flag (fCons (fVar 4) (fCons (fVar 2) fNil))))) (fNotT (fTest (fCall 3 F__is_hue_of (fCons (fVar 5) (fCons (fVar 3) (fCons (fVar 1) fNil))))))) (sRet (fC (.bool false))) sSkip)
      (sRet (fAnd (fCall 2 F__is_map (fCons (fVar 6) (fCons (fVar 3) fNil))) (fCall 2 F__is_map (fCons (fVar 7) (fCons (fVar 3) fNil))))))))
theorem ok__is_row {f : Addr} {fd : FuncData} (F : Fun K "_is_row" "_is_row" s__is_row f fd) (T : Blt mg) (Z : Blt2 mg) (C_is_tuple_of : Cal P w K mg base "is_tuple_of" 1 ["thing", "many"] (spD K 2 fun as d => F_is_tuple_of as = some d)) (C__is_flag : Cal P w K mg base "_is_flag" 2 ["thing", "many"] (spD K 2 fun as d => F__is_flag as = some d)) (C__is_hue_of : Cal P w K mg base "_is_hue_of" 2 ["thing", "hues", "letter"] (spD K 3 fun as d => F__is_hue_of as = some d)) (C__is_map : Cal P w K mg base "_is_map" 5 ["thing", "hues"] (spD K 2 fun as d => F__is_map as = some d)) : FnOk P w K mg base CX0 6 f fd ["thing", "letter", "many", "hues"] (spD K 4 fun as d => F__is_row as = some d) := by
  refine fn_F F sc__is_row rfl fun cdv A outer s H E hr => ?_
  have hu64 : (A.deeper (envOfC "_is_row" (defScope s__is_row) s.heap.objs.size f cdv)).units + 64 < cLine := hr.units
  exact ⟨_, (pss_cons (ps_if (pt_not (pt_val (pe_cal C_is_tuple_of (hr.mono (by decide)) (by rfl) (pa_cons (pv 0) (pa_cons pe_int pa_nil))))) (pss_one (ps_ret pe_bl)) pss_nil)
      (pss_cons (ps_asg (pv 0) (pg_tup rfl (pgs_cons (pg_name (i := 4) sc__is_row.nd rfl (Or.inl rfl)) (pgs_cons (pg_name (i := 5) sc__is_row.nd rfl (Or.inl rfl)) (pgs_cons (pg_name (i := 6) sc__is_row.nd rfl (Or.inl rfl)) (pgs_cons (pg_name (i := 7) sc__is_row.nd rfl (Or.inl rfl)) pgs_nil))))))
      (pss_cons (ps_if (PW.pt (pw_or (pt_not (pt_val (pe_cal C__is_flag (hr.mono (by decide)) (by rfl) (pa_cons (pv 4) (pa_cons (pv 2) pa_nil))))) (pw_or1 (pt_not (pt_val (pe_cal C__is_hue_of (hr.mono (by decide)) (by rfl) (pa_cons (pv 5) (pa_cons (pv 3) (pa_cons (pv 1) pa_nil))))))))) (pss_one (ps_ret pe_bl)) pss_nil)
      (pss_one (ps_ret (pe_and (pe_cal C__is_map (hr.mono (by decide)) (by rfl) (pa_cons (pv 6) (pa_cons (pv 3) pa_nil))) (pe_one (pe_cal C__is_map (hr.mono (by decide)) (by rfl) (pa_cons (pv 7) (pa_cons (pv 3) pa_nil)))))))))), (sf_seq (sf_if (bf_not (bf_B (xf_call (af_cons xf_var (af_cons xf_int af_nil))))) (sf_ret xf_bl) sf_nil)
      (sf_seq (sf_asg xf_var gf_four)
      (sf_seq (sf_if (bf_or (bf_not (bf_B (xf_call (af_cons xf_var (af_cons xf_var af_nil))))) (bf_not (bf_B (xf_call (af_cons xf_var (af_cons xf_var (af_cons xf_var af_nil))))))) (sf_ret xf_bl) sf_nil)
      (sf_ret (xf_and (xf_call (af_cons xf_var (af_cons xf_var af_nil))) (xf_call (af_cons xf_var (af_cons xf_var af_nil))))))))⟩
abbrev s__is_line : Stmt := top 14
abbrev N__is_line : List Str := ["thing", "many", "hues", "letter", "row"]
theorem sc__is_line : FnScope N__is_line ["thing", "many", "hues"] (defScope s__is_line) := ⟨rfl, rfl, rfl, by decide +kernel, rfl, by decide +kernel, by decide +kernel⟩
def F__is_line : List PyData → Option PyData := defF N__is_line (sSeq (sIf (fNotT (fTest (fCall 2 F_is_tuple_of (fCons (fVar 0) (fCons (fOp gAdd (fCB hMaxT (fCons (fVar 2) fNil)) (fC (.int 1))) fNil))))) (sRet (fC (.bool false))) sSkip)
      (sRet (fCB hAll (fCons (fLc (wkET (fVar 0)) (tgTwo 3 4) fYes (fCall 4 F__is_row (fCons (fVar 4) (fCons (fVar 3) (fCons (fVar 1) (fCons (fVar 2) fNil))))) [3, 4]) fNil))))
theorem ok__is_line {f : Addr} {fd : FuncData} (F : Fun K "_is_line" "_is_line" s__is_line f fd) (T : Blt mg) (Z : Blt2 mg) (C_is_tuple_of : Cal P w K mg base "is_tuple_of" 1 ["thing", "many"] (spD K 2 fun as d => F_is_tuple_of as = some d)) (C__is_row : Cal P w K mg base "_is_row" 6 ["thing", "letter", "many", "hues"] (spD K 4 fun as d => F__is_row as = some d)) : FnOk P w K mg base CX0 7 f fd ["thing", "many", "hues"] (spD K 3 fun as d => F__is_line as = some d) := by
  refine fn_F F sc__is_line rfl fun cdv A outer s H E hr => ?_
  have hu64 : (A.deeper (envOfC "_is_line" (defScope s__is_line) s.heap.objs.size f cdv)).units + 64 < cLine := hr.units
  exact ⟨_, (pss_cons (ps_if (pt_not (pt_val (pe_cal C_is_tuple_of (hr.mono (by decide)) (by rfl) (pa_cons (pv 0) (pa_cons (pe_op op_add (pe_callB (call_maxT rfl hu64) (by rfl) T.max (by decide +kernel) (pa_cons (pv 2) pa_nil)) pe_int) pa_nil))))) (pss_one (ps_ret pe_bl)) pss_nil)
      (pss_one (ps_ret (pe_callB (cr_all rfl) (by rfl) T.all (by decide +kernel) (pa_cons (pe_lc (own := [("letter", 3), ("row", 4)]) (g := (gTup K 2 (gCons (gName 3) (gCons (gName 4) gNil)))) (tt := tYes) (te := (tCall (spHide _) [] E0 (tCons (tVar 4) (tCons (tVar 3) (tCons (tVar 1) (tCons (tVar 2) tNil)))))) rfl sc__is_line.nd (pi_enumT (by rfl) T.enumerate (pa_cons (pv 0) pa_nil)) (blkOk_by (N := N__is_line) (sc := defScope s__is_line) (by decide +kernel)) (fun _ _ _ _ _ => by exact (pg_tup rfl (pgs_cons (pg_name (i := 3) sc__is_line.nd rfl (Or.inl rfl)) (pgs_cons (pg_name (i := 4) sc__is_line.nd rfl (Or.inl rfl)) pgs_nil)))) (fun _ _ _ _ _ => by exact pts_nil) (fun _ _ _ _ _ => by exact (pe_cal C__is_row (hr.mono (by decide)) (by rfl) (pa_cons (pv 4) (pa_cons (pv 3) (pa_cons (pv 1) (pa_cons (pv 2) pa_nil))))))) pa_nil))))), (sf_seq (sf_if (bf_not (bf_B (xf_call (af_cons xf_var (af_cons (xf_op (xf_cb (af_cons xf_var af_nil) hf_maxT) xf_int of_add) af_nil))))) (sf_ret xf_bl) sf_nil)
      (sf_ret (xf_cb (af_cons (xf_lc (wf_enT xf_var) gf_two (gw_two (by simp) (by simp)) bf_yes (xf_call (af_cons xf_var (af_cons xf_var (af_cons xf_var (af_cons xf_var af_nil)))))) af_nil) hf_all)))⟩
abbrev s__is_rows : Stmt := top 13
abbrev N__is_rows : List Str := ["thing", "many", "hues", "lines", "line"]
theorem sc__is_rows : FnScope N__is_rows ["thing", "many", "hues"] (defScope s__is_rows) := ⟨rfl, rfl, rfl, by decide +kernel, rfl, by decide +kernel, by decide +kernel⟩
def F__is_rows : List PyData → Option PyData := defF N__is_rows (sSeq (sIf (fOrT (fNotT (fTest (fCall 2 F_is_tuple_of (fCons (fVar 0) (fCons (fVar 1) fNil))))) (fNotT (fTest (fCB hAll (fCons (fLc (wkT (fVar 0)) (tgName 3) fYes (fCall 2 F_is_tuple_of (fCons (fVar 3) (fCons (fCB hLen (fCons (fVar 2) fNil)) fNil))) [3]) fNil))))) (sRet (fC (.bool false))) sSkip)
      (sRet (fCB hAll (fCons (fLc2 (wkT (fVar 0)) (tgName 3) (wkT (fVar 3)) (tgName 4) (fCall 3 F__is_line (fCons (fVar 4) (fCons (fVar 1) (fCons (fVar 2) fNil)))) [3, 4] [4]) fNil))))
theorem ok__is_rows {f : Addr} {fd : FuncData} (F : Fun K "_is_rows" "_is_rows" s__is_rows f fd) (T : Blt mg) (Z : Blt2 mg) (C_is_tuple_of : Cal P w K mg base "is_tuple_of" 1 ["thing", "many"] (spD K 2 fun as d => F_is_tuple_of as = some d)) (C__is_line : Cal P w K mg base "_is_line" 7 ["thing", "many", "hues"] (spD K 3 fun as d => F__is_line as = some d)) : FnOk P w K mg base CX0 8 f fd ["thing", "many", "hues"] (spD K 3 fun as d => F__is_rows as = some d) := by
  refine fn_F F sc__is_rows rfl fun cdv A outer s H E hr => ?_
  have hu64 : (A.deeper (envOfC "_is_rows" (defScope s__is_rows) s.heap.objs.size f cdv)).units + 64 < cLine := hr.units
  exact ⟨_, (pss_cons (ps_if (PW.pt (pw_or (pt_not (pt_val (pe_cal C_is_tuple_of (hr.mono (by decide)) (by rfl) (pa_cons (pv 0) (pa_cons (pv 1) pa_nil))))) (pw_or1 (pt_not (pt_val (pe_callB (cr_all rfl) (by rfl) T.all (by decide +kernel) (pa_cons (pe_lc (own := [("lines", 3)]) (g := (gName 3)) (tt := tYes) (te := (tCall (spHide _) [] E0 (tCons (tVar 3) (tCons (tCB (Ph.rLen K) (tCons (tVar 2) tNil)) tNil)))) rfl sc__is_rows.nd (pi_tup (pv 0)) (blkOk_by (N := N__is_rows) (sc := defScope s__is_rows) (by decide +kernel)) (fun _ _ _ _ _ => by exact (pg_name (i := 3) sc__is_rows.nd rfl (Or.inl rfl))) (fun _ _ _ _ _ => by exact pts_nil) (fun _ _ _ _ _ => by exact (pe_cal C_is_tuple_of (hr.mono (by decide)) (by rfl) (pa_cons (pv 3) (pa_cons (pe_callB call_len_seq (by rfl) T.len PySem.boot_len (pa_cons (pv 2) pa_nil)) pa_nil))))) pa_nil))))))) (pss_one (ps_ret pe_bl)) pss_nil)
      (pss_one (ps_ret (pe_callB (cr_all rfl) (by rfl) T.all (by decide +kernel) (pa_cons (pe_lc2 (own := [("lines", 3), ("line", 4)]) (vs1 := [4]) (g := (gName 3)) (g1 := (gName 4)) (tt := tYes) (tt1 := tYes) (wi1 := (iTup K (tVar 3))) (te := (tCall (spHide _) [] E0 (tCons (tVar 4) (tCons (tVar 1) (tCons (tVar 2) tNil))))) rfl sc__is_rows.nd (pi_tup (pv 0)) (blkOk_by (N := N__is_rows) (sc := defScope s__is_rows) (by decide +kernel)) (by decide) (fun _ _ _ _ _ => by exact (pg_name (i := 3) sc__is_rows.nd rfl (Or.inl rfl))) (fun _ _ _ _ _ => by exact pts_nil) (fun _ _ _ _ _ => by exact (pi_tup (pv 3))) (fun _ _ _ _ _ => by exact (pg_name (i := 4) sc__is_rows.nd rfl (Or.inl rfl))) (fun _ _ _ _ _ => by exact pts_nil) (fun _ _ _ _ _ => by exact (pe_cal C__is_line (hr.mono (by decide)) (by rfl) (pa_cons (pv 4) (pa_cons (pv 1) (pa_cons (pv 2) pa_nil)))))) pa_nil))))), (sf_seq (sf_if (bf_or (bf_not (bf_B (xf_call (af_cons xf_var (af_cons xf_var af_nil))))) (bf_not (bf_B (xf_cb (af_cons (xf_lc (wf_tup xf_var) gf_name (gw_name (by simp)) bf_yes (xf_call (af_cons xf_var (af_cons (xf_cb (af_cons xf_var af_nil) hf_len) af_nil)))) af_nil) hf_all)))) (sf_ret xf_bl) sf_nil)
      (sf_ret (xf_cb (af_cons (xf_lc2 (wf_tup xf_var) gf_name (gw_name (by simp)) (wf_tup xf_var) gf_name (gw_name (by simp)) (xf_call (af_cons xf_var (af_cons xf_var (af_cons xf_var af_nil))))) af_nil) hf_all)))⟩
abbrev s_is_book : Stmt := top 8
abbrev N_is_book : List Str := ["thing", "answers", "hues", "begin", "rows"]
theorem sc_is_book : FnScope N_is_book ["thing"] (defScope s_is_book) := ⟨rfl, rfl, rfl, by decide +kernel, rfl, by decide +kernel, by decide +kernel⟩
def F_is_book : List PyData → Option PyData := defF N_is_book (sSeq (sIf (fNotT (fTest (fCall 2 F_is_tuple_of (fCons (fVar 0) (fCons (fC (.int 4)) fNil))))) (sRet (fC (.bool false))) sSkip)
      (sSeq (sAsg (fVar 0) (tgFour 1 2 3 4))
      (sSeq (sIf (fOrT (fNotT (fTest (fCall 1 F_is_answers (fCons (fVar 1) fNil)))) (fNotT (fTest (fCall 1 F__is_hues (fCons (fVar 2) fNil))))) (sRet (fC (.bool false))) sSkip)
      (sRet (fAnd (fCall 3 F__is_begin (fCons (fVar 3) (fCons (fCB hLen (fCons (fVar 1) fNil)) (fCons (fVar 2) fNil)))) (fCall 3 F__is_rows (fCons (fVar 4) (fCons (fCB hLen (fCons (fVar 1) fNil)) (fCons (fVar 2) fNil)))))))))
theorem ok_is_book {f : Addr} {fd : FuncData} (F : Fun K "is_book" "is_book" s_is_book f fd) (T : Blt mg) (Z : Blt2 mg) (C_is_tuple_of : Cal P w K mg base "is_tuple_of" 1 ["thing", "many"] (spD K 2 fun as d => F_is_tuple_of as = some d)) (C_is_answers : Cal P w K mg base "is_answers" 1 ["thing"] (spD K 1 fun as d => F_is_answers as = some d)) (C__is_hues : Cal P w K mg base "_is_hues" 4 ["thing"] (spD K 1 fun as d => F__is_hues as = some d)) (C__is_begin : Cal P w K mg base "_is_begin" 3 ["thing", "many", "hues"] (spD K 3 fun as d => F__is_begin as = some d)) (C__is_rows : Cal P w K mg base "_is_rows" 8 ["thing", "many", "hues"] (spD K 3 fun as d => F__is_rows as = some d)) : FnOk P w K mg base CX0 9 f fd ["thing"] (spD K 1 fun as d => F_is_book as = some d) := by
  refine fn_F F sc_is_book rfl fun cdv A outer s H E hr => ?_
  have hu64 : (A.deeper (envOfC "is_book" (defScope s_is_book) s.heap.objs.size f cdv)).units + 64 < cLine := hr.units
  exact ⟨_, (pss_cons (ps_if (pt_not (pt_val (pe_cal C_is_tuple_of (hr.mono (by decide)) (by rfl) (pa_cons (pv 0) (pa_cons pe_int pa_nil))))) (pss_one (ps_ret pe_bl)) pss_nil)
      (pss_cons (ps_asg (pv 0) (pg_tup rfl (pgs_cons (pg_name (i := 1) sc_is_book.nd rfl (Or.inl rfl)) (pgs_cons (pg_name (i := 2) sc_is_book.nd rfl (Or.inl rfl)) (pgs_cons (pg_name (i := 3) sc_is_book.nd rfl (Or.inl rfl)) (pgs_cons (pg_name (i := 4) sc_is_book.nd rfl (Or.inl rfl)) pgs_nil))))))
      (pss_cons (ps_if (PW.pt (pw_or (pt_not (pt_val (pe_cal C_is_answers (hr.mono (by decide)) (by rfl) (pa_cons (pv 1) pa_nil)))) (pw_or1 (pt_not (pt_val (pe_cal C__is_hues (hr.mono (by decide)) (by rfl) (pa_cons (pv 2) pa_nil))))))) (pss_one (ps_ret pe_bl)) pss_nil)
      (pss_one (ps_ret (pe_and (pe_cal C__is_begin (hr.mono (by decide)) (by rfl) (pa_cons (pv 3) (pa_cons (pe_callB call_len_seq (by rfl) T.len PySem.boot_len (pa_cons (pv 1) pa_nil)) (pa_cons (pv 2) pa_nil)))) (pe_one (pe_cal C__is_rows (hr.mono (by decide)) (by rfl) (pa_cons (pv 4) (pa_cons (pe_callB call_len_seq (by rfl) T.len PySem.boot_len (pa_cons (pv 1) pa_nil)) (pa_cons (pv 2) pa_nil))))))))))), (sf_seq (sf_if (bf_not (bf_B (xf_call (af_cons xf_var (af_cons xf_int af_nil))))) (sf_ret xf_bl) sf_nil)
      (sf_seq (sf_asg xf_var gf_four)
      (sf_seq (sf_if (bf_or (bf_not (bf_B (xf_call (af_cons xf_var af_nil)))) (bf_not (bf_B (xf_call (af_cons xf_var af_nil))))) (sf_ret xf_bl) sf_nil)
      (sf_ret (xf_and (xf_call (af_cons xf_var (af_cons (xf_cb (af_cons xf_var af_nil) hf_len) (af_cons xf_var af_nil)))) (xf_call (af_cons xf_var (af_cons (xf_cb (af_cons xf_var af_nil) hf_len) (af_cons xf_var af_nil)))))))))⟩
abbrev s_is_stand : Stmt := top 17
abbrev N_is_stand : List Str := ["book", "thing"]
theorem sc_is_stand : FnScope N_is_stand ["book", "thing"] (defScope s_is_stand) := ⟨rfl, rfl, rfl, by decide +kernel, rfl, by decide +kernel, by decide +kernel⟩
def F_is_stand : List PyData → Option PyData := defF N_is_stand (sSeq (sIf (fOrT (fNotT (fTest (fCall 2 F_is_tuple_of (fCons (fVar 1) (fCons (fC (.int 2)) fNil))))) (fNotT (fTest (fCall 2 F__is_flag (fCons (fOp gIxT (fVar 1) (fC (.int 0))) (fCons (fCB hLen (fCons (fOp gIxT (fVar 0) (fC (.int 0))) fNil)) fNil)))))) (sRet (fC (.bool false))) sSkip)
      (sRet (fAnd (fCall 3 F_has_numbers_between (fCons (fOp gIxT (fVar 1) (fC (.int 1))) (fCons (fC (.int 0)) (fCons (fOp gSub (fCB hLen (fCons (fOp gIxT (fVar 0) (fC (.int 1))) fNil)) (fC (.int 1))) fNil)))) (fOp gGt (fCB hLen (fCons (fOp gIxT (fVar 1) (fC (.int 1))) fNil)) (fC (.int 0))))))
theorem ok_is_stand {f : Addr} {fd : FuncData} (F : Fun K "is_stand" "is_stand" s_is_stand f fd) (T : Blt mg) (Z : Blt2 mg) (C_is_tuple_of : Cal P w K mg base "is_tuple_of" 1 ["thing", "many"] (spD K 2 fun as d => F_is_tuple_of as = some d)) (C__is_flag : Cal P w K mg base "_is_flag" 2 ["thing", "many"] (spD K 2 fun as d => F__is_flag as = some d)) (C_has_numbers_between : Cal P w K mg base "has_numbers_between" 4 ["thing", "low", "high"] (spD K 3 fun as d => F_has_numbers_between as = some d)) : FnOk P w K mg base CX0 5 f fd ["book", "thing"] (spD K 2 fun as d => F_is_stand as = some d) := by
  refine fn_F F sc_is_stand rfl fun cdv A outer s H E hr => ?_
  have hu64 : (A.deeper (envOfC "is_stand" (defScope s_is_stand) s.heap.objs.size f cdv)).units + 64 < cLine := hr.units
  exact ⟨_, (pss_cons (ps_if (PW.pt (pw_or (pt_not (pt_val (pe_cal C_is_tuple_of (hr.mono (by decide)) (by rfl) (pa_cons (pv 1) (pa_cons pe_int pa_nil))))) (pw_or1 (pt_not (pt_val (pe_cal C__is_flag (hr.mono (by decide)) (by rfl) (pa_cons (pe_ix ix_tup (pv 1) pe_int (fun _ _ => rfl)) (pa_cons (pe_callB call_len_seq (by rfl) T.len PySem.boot_len (pa_cons (pe_ix ix_tup (pv 0) pe_int (fun _ _ => rfl)) pa_nil)) pa_nil)))))))) (pss_one (ps_ret pe_bl)) pss_nil)
      (pss_one (ps_ret (pe_and (pe_cal C_has_numbers_between (hr.mono (by decide)) (by rfl) (pa_cons (pe_ix ix_tup (pv 1) pe_int (fun _ _ => rfl)) (pa_cons pe_int (pa_cons (pe_op op_sub (pe_callB call_len_seq (by rfl) T.len PySem.boot_len (pa_cons (pe_ix ix_tup (pv 0) pe_int (fun _ _ => rfl)) pa_nil)) pe_int) pa_nil)))) (pe_one (pe_cmpR op_gt (pe_callB call_len_seq (by rfl) T.len PySem.boot_len (pa_cons (pe_ix ix_tup (pv 1) pe_int (fun _ _ => rfl)) pa_nil)) pe_int (nomark _))))))), (sf_seq (sf_if (bf_or (bf_not (bf_B (xf_call (af_cons xf_var (af_cons xf_int af_nil))))) (bf_not (bf_B (xf_call (af_cons (xf_op xf_var xf_int of_ixT) (af_cons (xf_cb (af_cons (xf_op xf_var xf_int of_ixT) af_nil) hf_len) af_nil)))))) (sf_ret xf_bl) sf_nil)
      (sf_ret (xf_and (xf_call (af_cons (xf_op xf_var xf_int of_ixT) (af_cons xf_int (af_cons (xf_op (xf_cb (af_cons (xf_op xf_var xf_int of_ixT) af_nil) hf_len) xf_int of_sub) af_nil)))) (xf_op (xf_cb (af_cons (xf_op xf_var xf_int of_ixT) af_nil) hf_len) xf_int of_gt))))⟩
end
end K13
namespace K13
open PySem PySem.Spec PyProof.Rows L2 Ph
section
variable {P : Program} {w : World} {K : PySem.W.Frag} {mg : Str → Option Value} {base : Heap}
abbrev s__law_is_number : Stmt := top 29
abbrev N__law_is_number : List Str := ["thing", "below"]
theorem sc__law_is_number : FnScope N__law_is_number ["thing", "below"] (defScope s__law_is_number) := ⟨rfl, rfl, rfl, by decide +kernel, rfl, by decide +kernel, by decide +kernel⟩
def F__law_is_number : List PyData → Option PyData := defF N__law_is_number (sRet (fAnd (fIs isInt (fVar 0)) (fAnd (fNot (fIs isBool (fVar 0))) (fChain gLe gLt (fC (.int 0)) (fVar 0) (fVar 1)))))
theorem ok__law_is_number {f : Addr} {fd : FuncData} (F : Fun K "_law_is_number" "_law_is_number" s__law_is_number f fd) (T : Blt mg) (Z : Blt2 mg)  : FnOk P w K mg base CX0 1 f fd ["thing", "below"] (spD K 2 fun as d => F__law_is_number as = some d) := by
  refine fn_F F sc__law_is_number rfl fun cdv A outer s H E hr => ?_
  have hu64 : (A.deeper (envOfC "_law_is_number" (defScope s__law_is_number) s.heap.objs.size f cdv)).units + 64 < cLine := hr.units
  exact ⟨_, (pss_one (ps_ret (pe_and (pe_callB call_isi (by rfl) T.isinstance PyProof.Rows.boot_isinstance (pa_cons (pv 0) (pa_cons (pe_bltn (v := .ty "int") (by rfl) T.int (by decide +kernel) rfl) pa_nil))) (pe_and (pe_not (pe_callB call_isi (by rfl) T.isinstance PyProof.Rows.boot_isinstance (pa_cons (pv 0) (pa_cons (pe_bltn (v := .ty "bool") (by rfl) T.bool (by decide +kernel) rfl) pa_nil)))) (pe_one (pe_chain op_le op_lt pe_int (pv 0) (pv 1))))))), (sf_ret (xf_and (xf_is_int xf_var) (xf_and (xf_not (xf_is_bool xf_var)) (xf_chain xf_int xf_var xf_var of_le of_lt))))⟩
abbrev s__law_is_line : Stmt := top 30
abbrev N__law_is_line : List Str := ["thing", "many"]
theorem sc__law_is_line : FnScope N__law_is_line ["thing", "many"] (defScope s__law_is_line) := ⟨rfl, rfl, rfl, by decide +kernel, rfl, by decide +kernel, by decide +kernel⟩
def F__law_is_line : List PyData → Option PyData := defF N__law_is_line (sRet (fAnd (fIs isTuple (fVar 0)) (fOp gEqI (fCB hLen (fCons (fVar 0) fNil)) (fVar 1))))
theorem ok__law_is_line {f : Addr} {fd : FuncData} (F : Fun K "_law_is_line" "_law_is_line" s__law_is_line f fd) (T : Blt mg) (Z : Blt2 mg)  : FnOk P w K mg base CX0 1 f fd ["thing", "many"] (spD K 2 fun as d => F__law_is_line as = some d) := by
  refine fn_F F sc__law_is_line rfl fun cdv A outer s H E hr => ?_
  have hu64 : (A.deeper (envOfC "_law_is_line" (defScope s__law_is_line) s.heap.objs.size f cdv)).units + 64 < cLine := hr.units
  exact ⟨_, (pss_one (ps_ret (pe_and (pe_callB call_isi (by rfl) T.isinstance PyProof.Rows.boot_isinstance (pa_cons (pv 0) (pa_cons (pe_bltn (v := .ty "tuple") (by rfl) T.tuple (by decide +kernel) rfl) pa_nil))) (pe_one (pe_cmpR op_eq (pe_callB call_len_seq (by rfl) T.len PySem.boot_len (pa_cons (pv 0) pa_nil)) (pv 1) (nomark _)))))), (sf_ret (xf_and (xf_is_tuple xf_var) (xf_op (xf_cb (af_cons xf_var af_nil) hf_len) xf_var of_eqI)))⟩
abbrev s__law_is_map : Stmt := top 31
abbrev N__law_is_map : List Str := ["hues", "thing", "own", "letter"]
theorem sc__law_is_map : FnScope N__law_is_map ["hues", "thing"] (defScope s__law_is_map) := ⟨rfl, rfl, rfl, by decide +kernel, rfl, by decide +kernel, by decide +kernel⟩
def F__law_is_map : List PyData → Option PyData := defF N__law_is_map (sSeq (sIf (fOrT (fNotT (fTest (fCall 2 F__law_is_line (fCons (fVar 1) (fCons (fCB hLen (fCons (fVar 0) fNil)) fNil))))) (fTest (fOp gNeD (fLc (wkT (fVar 1)) (tgName 2) (fNotT (fTest (fCall 2 F__law_is_number (fCons (fVar 2) (fCons (fCB hLen (fCons (fVar 0) fNil)) fNil))))) (fC (.int 1)) [2]) (fLst fNil)))) (sRet (fC (.bool false))) sSkip)
      (sRet (fOp gEqD (fLc (wkZT (fVar 1) (fVar 0)) (tgTwo 2 3) (fTest (fOp gNeI (fOp gIxT (fVar 0) (fVar 2)) (fVar 3))) (fC (.int 1)) [2, 3]) (fLst fNil))))
theorem ok__law_is_map {f : Addr} {fd : FuncData} (F : Fun K "_law_is_map" "_law_is_map" s__law_is_map f fd) (T : Blt mg) (Z : Blt2 mg) (C__law_is_line : Cal P w K mg base "_law_is_line" 1 ["thing", "many"] (spD K 2 fun as d => F__law_is_line as = some d)) (C__law_is_number : Cal P w K mg base "_law_is_number" 1 ["thing", "below"] (spD K 2 fun as d => F__law_is_number as = some d)) : FnOk P w K mg base CX0 2 f fd ["hues", "thing"] (spD K 2 fun as d => F__law_is_map as = some d) := by
  refine fn_F F sc__law_is_map rfl fun cdv A outer s H E hr => ?_
  have hu64 : (A.deeper (envOfC "_law_is_map" (defScope s__law_is_map) s.heap.objs.size f cdv)).units + 64 < cLine := hr.units
  exact ⟨_, (pss_cons (ps_if (PW.pt (pw_or (pt_not (pt_val (pe_cal C__law_is_line (hr.mono (by decide)) (by rfl) (pa_cons (pv 1) (pa_cons (pe_callB call_len_seq (by rfl) T.len PySem.boot_len (pa_cons (pv 0) pa_nil)) pa_nil))))) (pw_or1 (pt_cmpR (op_neD hu64) (pe_lc (own := [("own", 2)]) (g := (gName 2)) (tt := (tNot (tB (tCall (spHide _) [] E0 (tCons (tVar 2) (tCons (tCB (Ph.rLen K) (tCons (tVar 0) tNil)) tNil)))))) (te := (tC (.int 1))) rfl sc__law_is_map.nd (pi_tup (pv 1)) (blkOk_by (N := N__law_is_map) (sc := defScope s__law_is_map) (by decide +kernel)) (fun _ _ _ _ _ => by exact (pg_name (i := 2) sc__law_is_map.nd rfl (Or.inl rfl))) (fun _ _ _ _ _ => by exact (pts_one (pt_not (pt_val (pe_cal C__law_is_number (hr.mono (by decide)) (by rfl) (pa_cons (pv 2) (pa_cons (pe_callB call_len_seq (by rfl) T.len PySem.boot_len (pa_cons (pv 0) pa_nil)) pa_nil))))))) (fun _ _ _ _ _ => by exact pe_int)) (pe_lst pa_nil) (nomark _))))) (pss_one (ps_ret pe_bl)) pss_nil)
      (pss_one (ps_ret (pe_cmpR (op_eqD hu64) (pe_lc (own := [("own", 2), ("letter", 3)]) (g := (gTup K 2 (gCons (gName 2) (gCons (gName 3) gNil)))) (tt := (tTest (tOp _ (tOp (rIxT K) (tVar 0) (tVar 2)) (tVar 3)))) (te := (tC (.int 1))) rfl sc__law_is_map.nd (RZ.pi_zipA (by rfl) T.zip (pa_cons (pv 1) (pa_cons (pv 0) pa_nil))) (blkOk_by (N := N__law_is_map) (sc := defScope s__law_is_map) (by decide +kernel)) (fun _ _ _ _ _ => by exact (pg_tup rfl (pgs_cons (pg_name (i := 2) sc__law_is_map.nd rfl (Or.inl rfl)) (pgs_cons (pg_name (i := 3) sc__law_is_map.nd rfl (Or.inl rfl)) pgs_nil)))) (fun _ _ _ _ _ => by exact (pts_one (pt_cmpR op_ne (pe_ix ix_tup (pv 0) (pv 2) (fun _ _ => rfl)) (pv 3) (nomark _)))) (fun _ _ _ _ _ => by exact pe_int)) (pe_lst pa_nil) (nomark _))))), (sf_seq (sf_if (bf_or (bf_not (bf_B (xf_call (af_cons xf_var (af_cons (xf_cb (af_cons xf_var af_nil) hf_len) af_nil))))) (bf_test (xf_op (xf_lc (wf_tup xf_var) gf_name (gw_name (by simp)) (bf_not (bf_B (xf_call (af_cons xf_var (af_cons (xf_cb (af_cons xf_var af_nil) hf_len) af_nil))))) xf_int) (xf_lst af_nil) of_neD))) (sf_ret xf_bl) sf_nil)
      (sf_ret (xf_op (xf_lc (wf_zipT xf_var xf_var) gf_two (gw_two (by simp) (by simp)) (bf_test (xf_op (xf_op xf_var xf_var of_ixT) xf_var of_neI)) xf_int) (xf_lst af_nil) of_eqD)))⟩
abbrev s__law_is_row : Stmt := top 32
abbrev N__law_is_row : List Str := ["flags", "hues", "letter", "thing"]
theorem sc__law_is_row : FnScope N__law_is_row ["flags", "hues", "letter", "thing"] (defScope s__law_is_row) := ⟨rfl, rfl, rfl, by decide +kernel, rfl, by decide +kernel, by decide +kernel⟩
def F__law_is_row : List PyData → Option PyData := defF N__law_is_row (sSeq (sIf (fOrT (fNotT (fTest (fCall 2 F__law_is_line (fCons (fVar 3) (fCons (fC (.int 4)) fNil))))) (fOrT (fNotT (fTest (fCall 2 F__law_is_number (fCons (fOp gIxT (fVar 3) (fC (.int 0))) (fCons (fVar 0) fNil))))) (fNotT (fTest (fCall 2 F__law_is_number (fCons (fOp gIxT (fVar 3) (fC (.int 1))) (fCons (fCB hLen (fCons (fVar 1) fNil)) fNil))))))) (sRet (fC (.bool false))) sSkip)
      (sRet (fAnd (fOp gEqI (fOp gIxT (fVar 1) (fOp gIxT (fVar 3) (fC (.int 1)))) (fVar 2)) (fAnd (fCall 2 F__law_is_map (fCons (fVar 1) (fCons (fOp gIxT (fVar 3) (fC (.int 2))) fNil))) (fCall 2 F__law_is_map (fCons (fVar 1) (fCons (fOp gIxT (fVar 3) (fC (.int 3))) fNil)))))))
theorem ok__law_is_row {f : Addr} {fd : FuncData} (F : Fun K "_law_is_row" "_law_is_row" s__law_is_row f fd) (T : Blt mg) (Z : Blt2 mg) (C__law_is_line : Cal P w K mg base "_law_is_line" 1 ["thing", "many"] (spD K 2 fun as d => F__law_is_line as = some d)) (C__law_is_number : Cal P w K mg base "_law_is_number" 1 ["thing", "below"] (spD K 2 fun as d => F__law_is_number as = some d)) (C__law_is_map : Cal P w K mg base "_law_is_map" 2 ["hues", "thing"] (spD K 2 fun as d => F__law_is_map as = some d)) : FnOk P w K mg base CX0 3 f fd ["flags", "hues", "letter", "thing"] (spD K 4 fun as d => F__law_is_row as = some d) := by
  refine fn_F F sc__law_is_row rfl fun cdv A outer s H E hr => ?_
  have hu64 : (A.deeper (envOfC "_law_is_row" (defScope s__law_is_row) s.heap.objs.size f cdv)).units + 64 < cLine := hr.units
  exact ⟨_, (pss_cons (ps_if (PW.pt (pw_or (pt_not (pt_val (pe_cal C__law_is_line (hr.mono (by decide)) (by rfl) (pa_cons (pv 3) (pa_cons pe_int pa_nil))))) (pw_or (pt_not (pt_val (pe_cal C__law_is_number (hr.mono (by decide)) (by rfl) (pa_cons (pe_ix ix_tup (pv 3) pe_int (fun _ _ => rfl)) (pa_cons (pv 0) pa_nil))))) (pw_or1 (pt_not (pt_val (pe_cal C__law_is_number (hr.mono (by decide)) (by rfl) (pa_cons (pe_ix ix_tup (pv 3) pe_int (fun _ _ => rfl)) (pa_cons (pe_callB call_len_seq (by rfl) T.len PySem.boot_len (pa_cons (pv 1) pa_nil)) pa_nil))))))))) (pss_one (ps_ret pe_bl)) pss_nil)
      (pss_one (ps_ret (pe_and (pe_cmpR op_eq (pe_ix ix_tup (pv 1) (pe_ix ix_tup (pv 3) pe_int (fun _ _ => rfl)) (fun _ _ => rfl)) (pv 2) (nomark _)) (pe_and (pe_cal C__law_is_map (hr.mono (by decide)) (by rfl) (pa_cons (pv 1) (pa_cons (pe_ix ix_tup (pv 3) pe_int (fun _ _ => rfl)) pa_nil))) (pe_one (pe_cal C__law_is_map (hr.mono (by decide)) (by rfl) (pa_cons (pv 1) (pa_cons (pe_ix ix_tup (pv 3) pe_int (fun _ _ => rfl)) pa_nil))))))))), (sf_seq (sf_if (bf_or (bf_not (bf_B (xf_call (af_cons xf_var (af_cons xf_int af_nil))))) (bf_or (bf_not (bf_B (xf_call (af_cons (xf_op xf_var xf_int of_ixT) (af_cons xf_var af_nil))))) (bf_not (bf_B (xf_call (af_cons (xf_op xf_var xf_int of_ixT) (af_cons (xf_cb (af_cons xf_var af_nil) hf_len) af_nil))))))) (sf_ret xf_bl) sf_nil)
      (sf_ret (xf_and (xf_op (xf_op xf_var (xf_op xf_var xf_int of_ixT) of_ixT) xf_var of_eqI) (xf_and (xf_call (af_cons xf_var (af_cons (xf_op xf_var xf_int of_ixT) af_nil))) (xf_call (af_cons xf_var (af_cons (xf_op xf_var xf_int of_ixT) af_nil)))))))⟩
abbrev s__law_rows_right : Stmt := top 33
abbrev N__law_rows_right : List Str := ["answers", "hues", "rows", "own", "lines", "wide", "line", "letter", "row"]
theorem sc__law_rows_right : FnScope N__law_rows_right ["answers", "hues", "rows"] (defScope s__law_rows_right) := ⟨rfl, rfl, rfl, by decide +kernel, rfl, by decide +kernel, by decide +kernel⟩
def F__law_rows_right : List PyData → Option PyData := defF N__law_rows_right (sSeq (sIf (fOrT (fNotT (fTest (fCall 2 F__law_is_line (fCons (fVar 2) (fCons (fCB hLen (fCons (fVar 0) fNil)) fNil))))) (fTest (fOp gNeD (fLc (wkT (fVar 2)) (tgName 3) (fNotT (fTest (fCall 2 F__law_is_line (fCons (fVar 3) (fCons (fCB hLen (fCons (fVar 1) fNil)) fNil))))) (fC (.int 1)) [3]) (fLst fNil)))) (sRet (fC (.bool false))) sSkip)
      (sSeq (sAsg (fLst fNil) (tgName 4))
      (sSeq (sFor (wkT (fVar 2)) (tgName 3) (sAsg (fOp gCatL (fVar 4) (fCB hLst (fCons (fVar 3) fNil))) (tgName 4)))
      (sSeq (sAsg (fIfE (fTest (fIs isTuple (fOp gIxL (fVar 4) (fC (.int 0))))) (fCB hLen (fCons (fOp gIxL (fVar 4) (fC (.int 0))) fNil)) (fC (.int 0))) (tgName 5))
      (sSeq (sIf (fOrT (fTest (fOp gLt (fVar 5) (fC (.int 2)))) (fOrT (fTest (fOp gNeD (fLc (wkL (fVar 4)) (tgName 3) (fNotT (fTest (fCall 2 F__law_is_line (fCons (fVar 3) (fCons (fVar 5) fNil))))) (fC (.int 1)) [3]) (fLst fNil))) (fTest (fOp gNeD (fLc (wkT (fVar 1)) (tgName 3) (fTest (fOp gGe (fVar 3) (fVar 5))) (fC (.int 1)) [3]) (fLst fNil))))) (sRet (fC (.bool false))) sSkip)
      (sSeq (sFor (wkL (fVar 4)) (tgName 6) (sIf (fTest (fOp gNeD (fLc (wkET (fVar 6)) (tgTwo 7 8) (fNotT (fTest (fCall 4 F__law_is_row (fCons (fCB hLen (fCons (fVar 0) fNil)) (fCons (fVar 1) (fCons (fVar 7) (fCons (fVar 8) fNil))))))) (fC (.int 1)) [7, 8]) (fLst fNil))) (sRet (fC (.bool false))) sSkip))
      (sRet (fC (.bool true)))))))))
theorem ok__law_rows_right {f : Addr} {fd : FuncData} (F : Fun K "_law_rows_right" "_law_rows_right" s__law_rows_right f fd) (T : Blt mg) (Z : Blt2 mg) (C__law_is_line : Cal P w K mg base "_law_is_line" 1 ["thing", "many"] (spD K 2 fun as d => F__law_is_line as = some d)) (C__law_is_row : Cal P w K mg base "_law_is_row" 3 ["flags", "hues", "letter", "thing"] (spD K 4 fun as d => F__law_is_row as = some d)) : FnOk P w K mg base CX0 4 f fd ["answers", "hues", "rows"] (spD K 3 fun as d => F__law_rows_right as = some d) := by
  refine fn_F F sc__law_rows_right rfl fun cdv A outer s H E hr => ?_
  have hu64 : (A.deeper (envOfC "_law_rows_right" (defScope s__law_rows_right) s.heap.objs.size f cdv)).units + 64 < cLine := hr.units
  exact ⟨_, (pss_cons (ps_if (PW.pt (pw_or (pt_not (pt_val (pe_cal C__law_is_line (hr.mono (by decide)) (by rfl) (pa_cons (pv 2) (pa_cons (pe_callB call_len_seq (by rfl) T.len PySem.boot_len (pa_cons (pv 0) pa_nil)) pa_nil))))) (pw_or1 (pt_cmpR (op_neD hu64) (pe_lc (own := [("own", 3)]) (g := (gName 3)) (tt := (tNot (tB (tCall (spHide _) [] E0 (tCons (tVar 3) (tCons (tCB (Ph.rLen K) (tCons (tVar 1) tNil)) tNil)))))) (te := (tC (.int 1))) rfl sc__law_rows_right.nd (pi_tup (pv 2)) (blkOk_by (N := N__law_rows_right) (sc := defScope s__law_rows_right) (by decide +kernel)) (fun _ _ _ _ _ => by exact (pg_name (i := 3) sc__law_rows_right.nd rfl (Or.inl rfl))) (fun _ _ _ _ _ => by exact (pts_one (pt_not (pt_val (pe_cal C__law_is_line (hr.mono (by decide)) (by rfl) (pa_cons (pv 3) (pa_cons (pe_callB call_len_seq (by rfl) T.len PySem.boot_len (pa_cons (pv 1) pa_nil)) pa_nil))))))) (fun _ _ _ _ _ => by exact pe_int)) (pe_lst pa_nil) (nomark _))))) (pss_one (ps_ret pe_bl)) pss_nil)
      (pss_cons (ps_set (i := 4) sc__law_rows_right.nd rfl (Or.inl rfl) (pe_lst pa_nil))
      (pss_cons (ps_for PassesOwn.never rfl (pi_tup (pv 2)) (pg_name (i := 3) sc__law_rows_right.nd rfl (Or.inl rfl)) (pss_one (ps_set (i := 4) sc__law_rows_right.nd rfl (Or.inl rfl) (pe_op op_cat (pv 4) (pe_callTy call_list_of (by rfl) T.list (by decide +kernel) (pa_cons (pv 3) pa_nil))))))
      (pss_cons (ps_set (i := 5) sc__law_rows_right.nd rfl (Or.inr rfl) (pe_ifExp (pt_val (pe_callB call_isi (by rfl) T.isinstance PyProof.Rows.boot_isinstance (pa_cons (pe_ix ix_list (pv 4) pe_int (fun _ _ => rfl)) (pa_cons (pe_bltn (v := .ty "tuple") (by rfl) T.tuple (by decide +kernel) rfl) pa_nil)))) (pe_callB call_len_seq (by rfl) T.len PySem.boot_len (pa_cons (pe_ix ix_list (pv 4) pe_int (fun _ _ => rfl)) pa_nil)) pe_int))
      (pss_cons (ps_if (PW.pt (pw_or (pt_cmpR op_lt (pv 5) pe_int (nomark _)) (pw_or (pt_cmpR (op_neD hu64) (pe_lc (own := [("own", 3)]) (g := (gName 3)) (tt := (tNot (tB (tCall (spHide _) [] E0 (tCons (tVar 3) (tCons (tVar 5) tNil)))))) (te := (tC (.int 1))) rfl sc__law_rows_right.nd (pi_list (pv 4)) (blkOk_by (N := N__law_rows_right) (sc := defScope s__law_rows_right) (by decide +kernel)) (fun _ _ _ _ _ => by exact (pg_name (i := 3) sc__law_rows_right.nd rfl (Or.inl rfl))) (fun _ _ _ _ _ => by exact (pts_one (pt_not (pt_val (pe_cal C__law_is_line (hr.mono (by decide)) (by rfl) (pa_cons (pv 3) (pa_cons (pv 5) pa_nil))))))) (fun _ _ _ _ _ => by exact pe_int)) (pe_lst pa_nil) (nomark _)) (pw_or1 (pt_cmpR (op_neD hu64) (pe_lc (own := [("own", 3)]) (g := (gName 3)) (tt := (tTest (tOp _ (tVar 3) (tVar 5)))) (te := (tC (.int 1))) rfl sc__law_rows_right.nd (pi_tup (pv 1)) (blkOk_by (N := N__law_rows_right) (sc := defScope s__law_rows_right) (by decide +kernel)) (fun _ _ _ _ _ => by exact (pg_name (i := 3) sc__law_rows_right.nd rfl (Or.inl rfl))) (fun _ _ _ _ _ => by exact (pts_one (pt_cmpR op_ge (pv 3) (pv 5) (nomark _)))) (fun _ _ _ _ _ => by exact pe_int)) (pe_lst pa_nil) (nomark _)))))) (pss_one (ps_ret pe_bl)) pss_nil)
      (pss_cons (ps_for PassesOwn.never rfl (pi_list (pv 4)) (pg_name (i := 6) sc__law_rows_right.nd rfl (Or.inl rfl)) (pss_one (ps_if (pt_cmpR (op_neD hu64) (pe_lc (own := [("letter", 7), ("row", 8)]) (g := (gTup K 2 (gCons (gName 7) (gCons (gName 8) gNil)))) (tt := (tNot (tB (tCall (spHide _) [] E0 (tCons (tCB (Ph.rLen K) (tCons (tVar 0) tNil)) (tCons (tVar 1) (tCons (tVar 7) (tCons (tVar 8) tNil)))))))) (te := (tC (.int 1))) rfl sc__law_rows_right.nd (pi_enumT (by rfl) T.enumerate (pa_cons (pv 6) pa_nil)) (blkOk_by (N := N__law_rows_right) (sc := defScope s__law_rows_right) (by decide +kernel)) (fun _ _ _ _ _ => by exact (pg_tup rfl (pgs_cons (pg_name (i := 7) sc__law_rows_right.nd rfl (Or.inl rfl)) (pgs_cons (pg_name (i := 8) sc__law_rows_right.nd rfl (Or.inl rfl)) pgs_nil)))) (fun _ _ _ _ _ => by exact (pts_one (pt_not (pt_val (pe_cal C__law_is_row (hr.mono (by decide)) (by rfl) (pa_cons (pe_callB call_len_seq (by rfl) T.len PySem.boot_len (pa_cons (pv 0) pa_nil)) (pa_cons (pv 1) (pa_cons (pv 7) (pa_cons (pv 8) pa_nil))))))))) (fun _ _ _ _ _ => by exact pe_int)) (pe_lst pa_nil) (nomark _)) (pss_one (ps_ret pe_bl)) pss_nil)))
      (pss_one (ps_ret pe_bl)))))))), (sf_seq (sf_if (bf_or (bf_not (bf_B (xf_call (af_cons xf_var (af_cons (xf_cb (af_cons xf_var af_nil) hf_len) af_nil))))) (bf_test (xf_op (xf_lc (wf_tup xf_var) gf_name (gw_name (by simp)) (bf_not (bf_B (xf_call (af_cons xf_var (af_cons (xf_cb (af_cons xf_var af_nil) hf_len) af_nil))))) xf_int) (xf_lst af_nil) of_neD))) (sf_ret xf_bl) sf_nil)
      (sf_seq (sf_asg (xf_lst af_nil) gf_name)
      (sf_seq (sf_for (wf_tup xf_var) gf_name (sf_asg (xf_op xf_var (xf_cb (af_cons xf_var af_nil) hf_lst) of_catL) gf_name))
      (sf_seq (sf_asg (xf_ifE (bf_B (xf_is_tuple (xf_op xf_var xf_int of_ixL))) (xf_cb (af_cons (xf_op xf_var xf_int of_ixL) af_nil) hf_len) xf_int) gf_name)
      (sf_seq (sf_if (bf_or (bf_test (xf_op xf_var xf_int of_lt)) (bf_or (bf_test (xf_op (xf_lc (wf_lst xf_var) gf_name (gw_name (by simp)) (bf_not (bf_B (xf_call (af_cons xf_var (af_cons xf_var af_nil))))) xf_int) (xf_lst af_nil) of_neD)) (bf_test (xf_op (xf_lc (wf_tup xf_var) gf_name (gw_name (by simp)) (bf_test (xf_op xf_var xf_var of_ge)) xf_int) (xf_lst af_nil) of_neD)))) (sf_ret xf_bl) sf_nil)
      (sf_seq (sf_for (wf_lst xf_var) gf_name (sf_if (bf_test (xf_op (xf_lc (wf_enT xf_var) gf_two (gw_two (by simp) (by simp)) (bf_not (bf_B (xf_call (af_cons (xf_cb (af_cons xf_var af_nil) hf_len) (af_cons xf_var (af_cons xf_var (af_cons xf_var af_nil))))))) xf_int) (xf_lst af_nil) of_neD)) (sf_ret xf_bl) sf_nil))
      (sf_ret xf_bl)))))))⟩
abbrev s__law_is_book : Stmt := top 34
abbrev N__law_is_book : List Str := ["thing", "own", "answers", "hues", "begin", "rows"]
theorem sc__law_is_book : FnScope N__law_is_book ["thing"] (defScope s__law_is_book) := ⟨rfl, rfl, rfl, by decide +kernel, rfl, by decide +kernel, by decide +kernel⟩
def F__law_is_book : List PyData → Option PyData := defF N__law_is_book (sSeq (sIf (fOrT (fNotT (fTest (fCall 2 F__law_is_line (fCons (fVar 0) (fCons (fC (.int 4)) fNil))))) (fTest (fOp gNeD (fLc (wkT (fVar 0)) (tgName 1) (fOrT (fNotT (fTest (fIs isTuple (fVar 1)))) (fTest (fOp gEqD (fVar 1) (fTup fNil)))) (fC (.int 1)) [1]) (fLst fNil)))) (sRet (fC (.bool false))) sSkip)
      (sSeq (sAsg (fVar 0) (tgFour 2 3 4 5))
      (sSeq (sIf (fOrT (fTest (fOp gNeD (fLc (wkT (fVar 2)) (tgName 1) (fNotT (fTest (fIs isBool (fVar 1)))) (fC (.int 1)) [1]) (fLst fNil))) (fTest (fOp gNeD (fLc (wkT (fVar 3)) (tgName 1) (fNotT (fTest (fCall 2 F__law_is_number (fCons (fVar 1) (fCons (fC (.int 99)) fNil))))) (fC (.int 1)) [1]) (fLst fNil)))) (sRet (fC (.bool false))) sSkip)
      (sSeq (sIf (fOrT (fNotT (fTest (fCall 2 F__law_is_line (fCons (fVar 4) (fCons (fC (.int 2)) fNil))))) (fOrT (fNotT (fTest (fCall 2 F__law_is_number (fCons (fOp gIxT (fVar 4) (fC (.int 0))) (fCons (fCB hLen (fCons (fVar 2) fNil)) fNil))))) (fNotT (fTest (fCall 2 F__law_is_number (fCons (fOp gIxT (fVar 4) (fC (.int 1))) (fCons (fCB hLen (fCons (fVar 3) fNil)) fNil))))))) (sRet (fC (.bool false))) sSkip)
      (sRet (fAnd (fOp gEqI (fOp gIxT (fVar 3) (fOp gIxT (fVar 4) (fC (.int 1)))) (fC (.int 0))) (fCall 3 F__law_rows_right (fCons (fVar 2) (fCons (fVar 3) (fCons (fVar 5) fNil))))))))))
theorem ok__law_is_book {f : Addr} {fd : FuncData} (F : Fun K "_law_is_book" "_law_is_book" s__law_is_book f fd) (T : Blt mg) (Z : Blt2 mg) (C__law_is_line : Cal P w K mg base "_law_is_line" 1 ["thing", "many"] (spD K 2 fun as d => F__law_is_line as = some d)) (C__law_is_number : Cal P w K mg base "_law_is_number" 1 ["thing", "below"] (spD K 2 fun as d => F__law_is_number as = some d)) (C__law_rows_right : Cal P w K mg base "_law_rows_right" 4 ["answers", "hues", "rows"] (spD K 3 fun as d => F__law_rows_right as = some d)) : FnOk P w K mg base CX0 5 f fd ["thing"] (spD K 1 fun as d => F__law_is_book as = some d) := by
  refine fn_F F sc__law_is_book rfl fun cdv A outer s H E hr => ?_
  have hu64 : (A.deeper (envOfC "_law_is_book" (defScope s__law_is_book) s.heap.objs.size f cdv)).units + 64 < cLine := hr.units
  exact ⟨_, (pss_cons (ps_if (PW.pt (pw_or (pt_not (pt_val (pe_cal C__law_is_line (hr.mono (by decide)) (by rfl) (pa_cons (pv 0) (pa_cons pe_int pa_nil))))) (pw_or1 (pt_cmpR (op_neD hu64) (pe_lc (own := [("own", 1)]) (g := (gName 1)) (tt := (tOr (tNot (tB (tCB (rIsi K) (tCons (tVar 1) (tCons (tC (.ty "tuple")) tNil))))) (tTest (tOp _ (tVar 1) (tTup tNil))))) (te := (tC (.int 1))) rfl sc__law_is_book.nd (pi_tup (pv 0)) (blkOk_by (N := N__law_is_book) (sc := defScope s__law_is_book) (by decide +kernel)) (fun _ _ _ _ _ => by exact (pg_name (i := 1) sc__law_is_book.nd rfl (Or.inl rfl))) (fun _ _ _ _ _ => by exact (pts_one (PW.pt (pw_or (pt_not (pt_val (pe_callB call_isi (by rfl) T.isinstance PyProof.Rows.boot_isinstance (pa_cons (pv 1) (pa_cons (pe_bltn (v := .ty "tuple") (by rfl) T.tuple (by decide +kernel) rfl) pa_nil))))) (pw_or1 (pt_cmpR (op_eqD hu64) (pv 1) (pe_tup pa_nil) (nomark _))))))) (fun _ _ _ _ _ => by exact pe_int)) (pe_lst pa_nil) (nomark _))))) (pss_one (ps_ret pe_bl)) pss_nil)
      (pss_cons (ps_asg (pv 0) (pg_tup rfl (pgs_cons (pg_name (i := 2) sc__law_is_book.nd rfl (Or.inl rfl)) (pgs_cons (pg_name (i := 3) sc__law_is_book.nd rfl (Or.inl rfl)) (pgs_cons (pg_name (i := 4) sc__law_is_book.nd rfl (Or.inl rfl)) (pgs_cons (pg_name (i := 5) sc__law_is_book.nd rfl (Or.inl rfl)) pgs_nil))))))
      (pss_cons (ps_if (PW.pt (pw_or (pt_cmpR (op_neD hu64) (pe_lc (own := [("own", 1)]) (g := (gName 1)) (tt := (tNot (tB (tCB (rIsi K) (tCons (tVar 1) (tCons (tC (.ty "bool")) tNil)))))) (te := (tC (.int 1))) rfl sc__law_is_book.nd (pi_tup (pv 2)) (blkOk_by (N := N__law_is_book) (sc := defScope s__law_is_book) (by decide +kernel)) (fun _ _ _ _ _ => by exact (pg_name (i := 1) sc__law_is_book.nd rfl (Or.inl rfl))) (fun _ _ _ _ _ => by exact (pts_one (pt_not (pt_val (pe_callB call_isi (by rfl) T.isinstance PyProof.Rows.boot_isinstance (pa_cons (pv 1) (pa_cons (pe_bltn (v := .ty "bool") (by rfl) T.bool (by decide +kernel) rfl) pa_nil))))))) (fun _ _ _ _ _ => by exact pe_int)) (pe_lst pa_nil) (nomark _)) (pw_or1 (pt_cmpR (op_neD hu64) (pe_lc (own := [("own", 1)]) (g := (gName 1)) (tt := (tNot (tB (tCall (spHide _) [] E0 (tCons (tVar 1) (tCons (tC (.int 99)) tNil)))))) (te := (tC (.int 1))) rfl sc__law_is_book.nd (pi_tup (pv 3)) (blkOk_by (N := N__law_is_book) (sc := defScope s__law_is_book) (by decide +kernel)) (fun _ _ _ _ _ => by exact (pg_name (i := 1) sc__law_is_book.nd rfl (Or.inl rfl))) (fun _ _ _ _ _ => by exact (pts_one (pt_not (pt_val (pe_cal C__law_is_number (hr.mono (by decide)) (by rfl) (pa_cons (pv 1) (pa_cons pe_int pa_nil))))))) (fun _ _ _ _ _ => by exact pe_int)) (pe_lst pa_nil) (nomark _))))) (pss_one (ps_ret pe_bl)) pss_nil)
      (pss_cons (ps_if (PW.pt (pw_or (pt_not (pt_val (pe_cal C__law_is_line (hr.mono (by decide)) (by rfl) (pa_cons (pv 4) (pa_cons pe_int pa_nil))))) (pw_or (pt_not (pt_val (pe_cal C__law_is_number (hr.mono (by decide)) (by rfl) (pa_cons (pe_ix ix_tup (pv 4) pe_int (fun _ _ => rfl)) (pa_cons (pe_callB call_len_seq (by rfl) T.len PySem.boot_len (pa_cons (pv 2) pa_nil)) pa_nil))))) (pw_or1 (pt_not (pt_val (pe_cal C__law_is_number (hr.mono (by decide)) (by rfl) (pa_cons (pe_ix ix_tup (pv 4) pe_int (fun _ _ => rfl)) (pa_cons (pe_callB call_len_seq (by rfl) T.len PySem.boot_len (pa_cons (pv 3) pa_nil)) pa_nil))))))))) (pss_one (ps_ret pe_bl)) pss_nil)
      (pss_one (ps_ret (pe_and (pe_cmpR op_eq (pe_ix ix_tup (pv 3) (pe_ix ix_tup (pv 4) pe_int (fun _ _ => rfl)) (fun _ _ => rfl)) pe_int (nomark _)) (pe_one (pe_cal C__law_rows_right (hr.mono (by decide)) (by rfl) (pa_cons (pv 2) (pa_cons (pv 3) (pa_cons (pv 5) pa_nil)))))))))))), (sf_seq (sf_if (bf_or (bf_not (bf_B (xf_call (af_cons xf_var (af_cons xf_int af_nil))))) (bf_test (xf_op (xf_lc (wf_tup xf_var) gf_name (gw_name (by simp)) (bf_or (bf_not (bf_B (xf_is_tuple xf_var))) (bf_test (xf_op xf_var (xf_tup af_nil) of_eqD))) xf_int) (xf_lst af_nil) of_neD))) (sf_ret xf_bl) sf_nil)
      (sf_seq (sf_asg xf_var gf_four)
      (sf_seq (sf_if (bf_or (bf_test (xf_op (xf_lc (wf_tup xf_var) gf_name (gw_name (by simp)) (bf_not (bf_B (xf_is_bool xf_var))) xf_int) (xf_lst af_nil) of_neD)) (bf_test (xf_op (xf_lc (wf_tup xf_var) gf_name (gw_name (by simp)) (bf_not (bf_B (xf_call (af_cons xf_var (af_cons xf_int af_nil))))) xf_int) (xf_lst af_nil) of_neD))) (sf_ret xf_bl) sf_nil)
      (sf_seq (sf_if (bf_or (bf_not (bf_B (xf_call (af_cons xf_var (af_cons xf_int af_nil))))) (bf_or (bf_not (bf_B (xf_call (af_cons (xf_op xf_var xf_int of_ixT) (af_cons (xf_cb (af_cons xf_var af_nil) hf_len) af_nil))))) (bf_not (bf_B (xf_call (af_cons (xf_op xf_var xf_int of_ixT) (af_cons (xf_cb (af_cons xf_var af_nil) hf_len) af_nil))))))) (sf_ret xf_bl) sf_nil)
      (sf_ret (xf_and (xf_op (xf_op xf_var (xf_op xf_var xf_int of_ixT) of_ixT) xf_int of_eqI) (xf_call (af_cons xf_var (af_cons xf_var (af_cons xf_var af_nil))))))))))⟩
abbrev s__law_is_stand : Stmt := top 35
abbrev N__law_is_stand : List Str := ["book", "thing", "own"]
theorem sc__law_is_stand : FnScope N__law_is_stand ["book", "thing"] (defScope s__law_is_stand) := ⟨rfl, rfl, rfl, by decide +kernel, rfl, by decide +kernel, by decide +kernel⟩
def F__law_is_stand : List PyData → Option PyData := defF N__law_is_stand (sSeq (sIf (fOrT (fNotT (fTest (fCall 2 F__law_is_line (fCons (fVar 1) (fCons (fC (.int 2)) fNil))))) (fOrT (fNotT (fTest (fCall 2 F__law_is_number (fCons (fOp gIxT (fVar 1) (fC (.int 0))) (fCons (fCB hLen (fCons (fOp gIxT (fVar 0) (fC (.int 0))) fNil)) fNil))))) (fOrT (fNotT (fTest (fIs isTuple (fOp gIxT (fVar 1) (fC (.int 1)))))) (fTest (fOp gEqD (fOp gIxT (fVar 1) (fC (.int 1))) (fTup fNil)))))) (sRet (fC (.bool false))) sSkip)
      (sRet (fOp gEqD (fLc (wkT (fOp gIxT (fVar 1) (fC (.int 1)))) (tgName 2) (fNotT (fTest (fCall 2 F__law_is_number (fCons (fVar 2) (fCons (fCB hLen (fCons (fOp gIxT (fVar 0) (fC (.int 1))) fNil)) fNil))))) (fC (.int 1)) [2]) (fLst fNil))))
theorem ok__law_is_stand {f : Addr} {fd : FuncData} (F : Fun K "_law_is_stand" "_law_is_stand" s__law_is_stand f fd) (T : Blt mg) (Z : Blt2 mg) (C__law_is_line : Cal P w K mg base "_law_is_line" 1 ["thing", "many"] (spD K 2 fun as d => F__law_is_line as = some d)) (C__law_is_number : Cal P w K mg base "_law_is_number" 1 ["thing", "below"] (spD K 2 fun as d => F__law_is_number as = some d)) : FnOk P w K mg base CX0 2 f fd ["book", "thing"] (spD K 2 fun as d => F__law_is_stand as = some d) := by
  refine fn_F F sc__law_is_stand rfl fun cdv A outer s H E hr => ?_
  have hu64 : (A.deeper (envOfC "_law_is_stand" (defScope s__law_is_stand) s.heap.objs.size f cdv)).units + 64 < cLine := hr.units
  exact ⟨_, (pss_cons (ps_if (PW.pt (pw_or (pt_not (pt_val (pe_cal C__law_is_line (hr.mono (by decide)) (by rfl) (pa_cons (pv 1) (pa_cons pe_int pa_nil))))) (pw_or (pt_not (pt_val (pe_cal C__law_is_number (hr.mono (by decide)) (by rfl) (pa_cons (pe_ix ix_tup (pv 1) pe_int (fun _ _ => rfl)) (pa_cons (pe_callB call_len_seq (by rfl) T.len PySem.boot_len (pa_cons (pe_ix ix_tup (pv 0) pe_int (fun _ _ => rfl)) pa_nil)) pa_nil))))) (pw_or (pt_not (pt_val (pe_callB call_isi (by rfl) T.isinstance PyProof.Rows.boot_isinstance (pa_cons (pe_ix ix_tup (pv 1) pe_int (fun _ _ => rfl)) (pa_cons (pe_bltn (v := .ty "tuple") (by rfl) T.tuple (by decide +kernel) rfl) pa_nil))))) (pw_or1 (pt_cmpR (op_eqD hu64) (pe_ix ix_tup (pv 1) pe_int (fun _ _ => rfl)) (pe_tup pa_nil) (nomark _))))))) (pss_one (ps_ret pe_bl)) pss_nil)
      (pss_one (ps_ret (pe_cmpR (op_eqD hu64) (pe_lc (own := [("own", 2)]) (g := (gName 2)) (tt := (tNot (tB (tCall (spHide _) [] E0 (tCons (tVar 2) (tCons (tCB (Ph.rLen K) (tCons (tOp (rIxT K) (tVar 0) (tC (.int 1))) tNil)) tNil)))))) (te := (tC (.int 1))) rfl sc__law_is_stand.nd (pi_tup (pe_ix ix_tup (pv 1) pe_int (fun _ _ => rfl))) (blkOk_by (N := N__law_is_stand) (sc := defScope s__law_is_stand) (by decide +kernel)) (fun _ _ _ _ _ => by exact (pg_name (i := 2) sc__law_is_stand.nd rfl (Or.inl rfl))) (fun _ _ _ _ _ => by exact (pts_one (pt_not (pt_val (pe_cal C__law_is_number (hr.mono (by decide)) (by rfl) (pa_cons (pv 2) (pa_cons (pe_callB call_len_seq (by rfl) T.len PySem.boot_len (pa_cons (pe_ix ix_tup (pv 0) pe_int (fun _ _ => rfl)) pa_nil)) pa_nil))))))) (fun _ _ _ _ _ => by exact pe_int)) (pe_lst pa_nil) (nomark _))))), (sf_seq (sf_if (bf_or (bf_not (bf_B (xf_call (af_cons xf_var (af_cons xf_int af_nil))))) (bf_or (bf_not (bf_B (xf_call (af_cons (xf_op xf_var xf_int of_ixT) (af_cons (xf_cb (af_cons (xf_op xf_var xf_int of_ixT) af_nil) hf_len) af_nil))))) (bf_or (bf_not (bf_B (xf_is_tuple (xf_op xf_var xf_int of_ixT)))) (bf_test (xf_op (xf_op xf_var xf_int of_ixT) (xf_tup af_nil) of_eqD))))) (sf_ret xf_bl) sf_nil)
      (sf_ret (xf_op (xf_lc (wf_tup (xf_op xf_var xf_int of_ixT)) gf_name (gw_name (by simp)) (bf_not (bf_B (xf_call (af_cons xf_var (af_cons (xf_cb (af_cons (xf_op xf_var xf_int of_ixT) af_nil) hf_len) af_nil))))) xf_int) (xf_lst af_nil) of_eqD)))⟩
abbrev s__law_put : Stmt := top 36
abbrev N__law_put : List Str := ["row", "at", "thing"]
theorem sc__law_put : FnScope N__law_put ["row", "at", "thing"] (defScope s__law_put) := ⟨rfl, rfl, rfl, by decide +kernel, rfl, by decide +kernel, by decide +kernel⟩
def F__law_put : List PyData → Option PyData := defF N__law_put (sRet (fOp gCatT (fOp gCatT (fSlT (fVar 0) oNone (oSome (fVar 1))) (fTup (fCons (fVar 2) fNil))) (fSlT (fVar 0) (oSome (fOp gAdd (fVar 1) (fC (.int 1)))) oNone)))
theorem ok__law_put {f : Addr} {fd : FuncData} (F : Fun K "_law_put" "_law_put" s__law_put f fd) (T : Blt mg) (Z : Blt2 mg)  : FnOk P w K mg base CX0 1 f fd ["row", "at", "thing"] (spD K 3 fun as d => F__law_put as = some d) := by
  refine fn_F F sc__law_put rfl fun cdv A outer s H E hr => ?_
  have hu64 : (A.deeper (envOfC "_law_put" (defScope s__law_put) s.heap.objs.size f cdv)).units + 64 < cLine := hr.units
  exact ⟨_, (pss_one (ps_ret (pe_op op_catA (pe_op op_catA (pe_slice sl_tupA (pv 0) po_none (po_some (pv 1))) (pe_tup (pa_cons (pv 2) pa_nil))) (pe_slice sl_tupA (pv 0) (po_some (pe_op op_add (pv 1) pe_int)) po_none)))), (sf_ret (xf_op (xf_op (xf_slT xf_var po_no (po_is xf_var)) (xf_tup (af_cons xf_var af_nil)) of_catT) (xf_slT xf_var (po_is (xf_op xf_var xf_int of_add)) po_no) of_catT))⟩
end
end K13
namespace Ph
open PySem PySem.Spec PyProof.Rows L2
def iSeq (K : PySem.W.Frag) (tl : TE) : TI := fun σ H R => tl σ H fun x H1 => ∃ a, x = .ref a ∧ (((∃ xs, SqL K H1 a xs) ∧ R (Itl K a) H1) ∨ ((∃ xs, SqT K H1 a xs) ∧ R (Itt K a) H1))
theorem pi_seq {X : Cx} {tg l : Expr} {tl : TE} (hl : PE X l tl) : PI X tg l (iSeq X.K tl) := by
  refine ⟨fun pins s σ H R I h => ?_⟩
  refine thn (hl.run pins s σ H _ I h) fun v s1 ⟨x, H1, I1, r1, q1⟩ => ?_
  obtain ⟨a, e, q⟩ := q1
  subst e
  cases r1
  rcases q with ⟨⟨xs, hq⟩, q⟩ | ⟨⟨xs, hq⟩, q⟩
  · obtain ⟨its, rv, p, hz⟩ := I1.list hq
    refine wpAny_pyIter_list p.isList ?_
    refine ⟨s1.heap.objs.size, [s1.heap.objs.size], _, _, H1, rfl, I1.kept (t' := s1.toks) fun b o e => Heap.get?_push_of_some _ e, turn_list a _, ⟨_, Heap.get?_push_size _ rfl, rfl, rfl⟩, fun b hb => ?_, q⟩
    have e : b = s1.heap.objs.size := by simpa using hb
    subst e
    exact I1.fpOk (Nat.le_refl _) (I1.hok.fresh (Nat.le_refl _))
  · obtain ⟨its, rv, p, hz⟩ := I1.tuple hq
    refine wpAny_pyIter_tuple (show s1.heap.IsTuple a its.toArray from p) ?_
    refine ⟨s1.heap.objs.size, [s1.heap.objs.size], _, _, H1, rfl, I1.kept (t' := s1.toks) fun b o e => Heap.get?_push_of_some _ e, turn_tuple a _, ⟨_, Heap.get?_push_size _ rfl, rfl, rfl⟩, fun b hb => ?_, q⟩
    have e : b = s1.heap.objs.size := by simpa using hb
    subst e
    exact I1.fpOk (Nat.le_refl _) (I1.hok.fresh (Nat.le_refl _))
def asS : PyData → Option (List PyData)
  | .tuple es => some es
  | .list es => some es
  | _ => none
def wkS (f : SEnv → Option PyData) : SEnv → Option (List PyData) := fun ds => (f ds).bind asS
section
variable {K : PySem.W.Frag} {ta tb te : TE} {f g : SEnv → Option PyData}
theorem wf_seq (h : Evf K ta f) : Eif K (iSeq K ta) (wkS f) := fun o ds es e σ H E W R r => by
  obtain ⟨x, a, e⟩ := bnd e
  refine h o ds _ a σ H E W _ fun v H2 e2 W2 y => ?_
  cases x <;> first | (cases e; done) | skip
  · cases e
    obtain ⟨p, xs, rfl, q, t⟩ := dd_lst y
    exact ⟨p, rfl, .inl ⟨⟨xs, SqL.of (hide_some q).2⟩, r _ H2 e2 W2 (it_lst q t)⟩⟩
  · cases e
    obtain ⟨p, xs, rfl, q, t⟩ := dd_tup y
    exact ⟨p, rfl, .inr ⟨⟨xs, ex_sqT hide_ex q⟩, r _ H2 e2 W2 (it_tup q t)⟩⟩
theorem of_repL : Opf K rRep gRepL := fun o a b d q => by
  cases a <;> first | (cases q; done) | skip
  cases b <;> first | (cases q; done) | skip
  obtain ⟨c, rfl⟩ := ite_some q
  rename_i as n
  intro x y H W hx hy Q q0
  obtain ⟨p, xs, rfl, h, t⟩ := dd_lst hx
  rw [dd_int hy]
  exact ⟨p, n, xs, rfl, rfl, (hide_some h).2, by omega, by omega, by rw [t.length]; exact Nat.le_trans c.2.2 mil, fun p2 hp => q0 _ _ (ex_new hp) (ow_mono W (ex_new hp)) (.lst (hide_new W hp) ((dds_rep t _).mono (ex_hide (ex_new hp))))⟩
def hMin2 : List PyData → Option PyData
  | [.int i, .int j] => some (.int (if j < i then j else i))
  | _ => none
def rMin2 : List V → Hp → VK → Prop := fun xs H Q => ∃ i j, xs = [.int i, .int j] ∧ Q (.int (if j < i then j else i)) H
theorem hf_min2 : Cbf K rMin2 hMin2 := fun o as d q => by
  unfold hMin2 at q
  split at q <;> cases q
  intro xs H W h Q q
  cases h with
  | cons h t =>
    cases t with
    | cons h2 t =>
      cases t
      rw [dd_int h, dd_int h2]
      exact ⟨_, _, rfl, q _ H (Same.refl H) W (.int _)⟩
end
theorem pe_cal0 {X : Cx} {x : Str} {k : Nat} {sp : Sp} {p pos : Pos} (C : Cal X.prog X.w X.K X.mg X.base x k [] sp) (hr : Room k X.A) (hg : Gl X x)
    (hdb : (x == ("__debug__" : Str)) = false := by decide) : PE X (.Call (.Name x p) [] [] pos) (tCall (spHide sp) [] E0 tNil) := by
  obtain ⟨f, fd, hm, hk, hb, F⟩ := C
  exact pe_call0 (fn_hide F) hr hg hm hk hb .nil pass0 hdb
theorem some_getD {α : Type} {x : Option α} {d : α} (h : x.isSome = true) : x = some (x.getD d) := by
  cases x with
  | none => cases h
  | some a => rfl
theorem gs_three {K : PySem.W.Frag} {ds : List (Option PyData)} {i j l : Nat} {vs : List Nat} {a b c : PyData} (h : i ∈ vs) (h' : j ∈ vs) (h2 : l ∈ vs) : GsD K vs (gTup K 3 (gCons (gName i) (gCons (gName j) (gCons (gName l) gNil)))) ds (.tuple [a, b, c]) (((ds.set i (some a)).set j (some b)).set l (some c)) := fun x σ H o hx E Q q => by
  obtain ⟨p, xs, rfl, hq, t⟩ := dd_tup hx
  cases t with | cons h1 t => ?_
  cases t with | cons h2 t => ?_
  cases t with | cons h3 t => ?_
  cases t
  exact ⟨p, _, rfl, ex_sqT hide_ex hq, rfl, _, _, rfl, _, _, rfl, _, _, rfl, rfl, q _ (by rw [wipe_set (by assumption), wipe_set h', wipe_set h]) (((E.set h1 i).set h2 j).set h3 l)⟩
def sclE : PyData → PyData → Bool
  | .none, .none => true
  | .bool a, .bool b => decide (a = b)
  | .int a, .int b => decide (a = b)
  | .str a, .str b => decide (a = b)
  | _, _ => false
def eqb : Nat → PyData → PyData → Bool
  | n + 1, .list as, .list bs => decide (as.length = bs.length) && decide (as.length ≤ 1000000) && (as.zip bs).all fun p => eqb n p.1 p.2
  | n + 1, .tuple as, .tuple bs => decide (as.length = bs.length) && decide (as.length ≤ 1000000) && (as.zip bs).all fun p => eqb n p.1 p.2
  | _, a, b => sclE a b
theorem sclE_ok {a b : PyData} (h : sclE a b = true) : a = b ∧ scalD a = true := by
  unfold sclE at h
  split at h <;> first | (cases h; done) | skip
  · exact ⟨rfl, rfl⟩
  · exact ⟨congrArg _ (of_decide_eq_true h), rfl⟩
  · exact ⟨congrArg _ (of_decide_eq_true h), rfl⟩
  · exact ⟨congrArg _ (of_decide_eq_true h), rfl⟩
theorem zip_eq {p : PyData → PyData → Bool} {Q : PyData → Prop} (hp : ∀ a b, p a b = true → a = b ∧ Q a) : ∀ {as bs : List PyData}, as.length = bs.length → ((as.zip bs).all fun x => p x.1 x.2) = true → as = bs ∧ ∀ e ∈ as, Q e
  | [], [], _, _ => ⟨rfl, fun e h => by cases h⟩
  | a :: as, b :: bs, l, h => by
    rw [List.zip_cons_cons, List.all_cons, Bool.and_eq_true] at h
    obtain ⟨e, q⟩ := hp a b h.1
    obtain ⟨e2, q2⟩ := zip_eq hp (by simpa using l) h.2
    refine ⟨by rw [e, e2], fun x hx => ?_⟩
    rcases List.mem_cons.mp hx with rfl | hx
    · exact q
    · exact q2 x hx
theorem eqb_ok : ∀ (n : Nat) {a b : PyData}, eqb n a b = true → a = b ∧ okD n a
  | 0, a, b, h => by
    unfold eqb at h
    obtain ⟨e, s⟩ := sclE_ok h
    exact ⟨e, okD_scal s⟩
  | n + 1, a, b, h => by
    unfold eqb at h
    split at h
    · rename_i n2 as bs e1
      cases e1
      rw [Bool.and_eq_true, Bool.and_eq_true] at h
      obtain ⟨e, q⟩ := zip_eq (p := eqb n) (Q := okD n) (fun a b h => eqb_ok n h) (of_decide_eq_true h.1.1) h.2
      exact ⟨by rw [e], of_decide_eq_true h.1.2, q⟩
    · rename_i n2 as bs e1
      cases e1
      rw [Bool.and_eq_true, Bool.and_eq_true] at h
      obtain ⟨e, q⟩ := zip_eq (p := eqb n) (Q := okD n) (fun a b h => eqb_ok n h) (of_decide_eq_true h.1.1) h.2
      exact ⟨by rw [e], of_decide_eq_true h.1.2, q⟩
    · obtain ⟨e, s⟩ := sclE_ok h
      exact ⟨e, okD_scal s⟩
def F_same (n : Nat) : List PyData → Option PyData
  | [a, b] => if eqb n a b = true then some (.bool true) else none
  | _ => none
theorem same_F {n : Nat} {as : List PyData} {d : PyData} (h : F_same n as = some d) : R_same (n + 1) as d := by
  unfold F_same at h
  split at h <;> first | (cases h; done) | skip
  obtain ⟨c, rfl⟩ := ite_some h
  obtain ⟨e, k⟩ := eqb_ok n c
  subst e
  refine ⟨_, rfl, k, rfl⟩
end Ph
namespace K13
open PySem PySem.Spec PyProof.Rows L2 Ph
section
variable {P : Program} {w : World} {K : PySem.W.Frag} {mg : Str → Option Value} {base : Heap}
abbrev s__law_lists : Stmt := top 22
abbrev N__law_lists : List Str := ["matter", "own"]
theorem sc__law_lists : FnScope N__law_lists ["matter"] (defScope s__law_lists) := ⟨rfl, rfl, rfl, by decide +kernel, rfl, by decide +kernel, by decide +kernel⟩
def F__law_lists : Nat → List PyData → Option PyData
  | 0 => fun _ => none
  | n + 1 => defF N__law_lists (sRet (fIfE (fTest (fIs (fun d => isList d || isTuple d) (fVar 0))) (fLc (wkS (fVar 0)) (tgName 1) fYes (fCall 1 (F__law_lists n) (fCons (fVar 1) fNil)) [1]) (fVar 0)))
theorem ok__law_lists {f : Addr} {fd : FuncData} (F : Fun K "_law_lists" "_law_lists" s__law_lists f fd) (T : Blt mg) (Z : Blt2 mg) (gf : mg "_law_lists" = some (.ref f)) (kf : PySem.W.keepIn K (.ref f) = true) (bf : Binds K fd ["matter"] []) :
    ∀ n : Nat, FnOk P w K mg base CX0 n f fd ["matter"] (spD K 1 fun as d => F__law_lists n as = some d) := by
  intro n
  induction n with
  | zero => exact ⟨fun vs H Q E h => (by obtain ⟨as, d, _, _, h, _⟩ := h; cases h), fun A outer s H args us vs Q E hr e0 hb hv h => (by obtain ⟨as, d, _, _, h, _⟩ := h; cases h)⟩
  | succ n ih =>
    have C__law_lists : Cal P w K mg base "_law_lists" n ["matter"] (spD K 1 fun as d => F__law_lists n as = some d) := ⟨f, fd, gf, kf, bf, ih⟩
    refine fn_F F sc__law_lists rfl fun cdv A outer s H E hr => ?_
    have hu64 : (A.deeper (envOfC "_law_lists" (defScope s__law_lists) s.heap.objs.size f cdv)).units + 64 < cLine := hr.units
    exact ⟨_, (pss_one (ps_ret (pe_ifExp (pt_val (pe_callB call_isiT (by rfl) T.isinstance PyProof.Rows.boot_isinstance (pa_cons (pv 0) (pa_cons (pe_tup (pa_cons (pe_bltn (v := .ty "list") (by rfl) T.list (by decide +kernel) rfl) (pa_cons (pe_bltn (v := .ty "tuple") (by rfl) T.tuple (by decide +kernel) rfl) pa_nil))) pa_nil)))) (pe_lc (own := [("own", 1)]) (g := (gName 1)) (tt := tYes) (te := (tCall (spHide _) [] E0 (tCons (tVar 1) tNil))) rfl sc__law_lists.nd (pi_seq (pv 0)) (blkOk_by (N := N__law_lists) (sc := defScope s__law_lists) (by decide +kernel)) (fun _ _ _ _ _ => by exact (pg_name (i := 1) sc__law_lists.nd rfl (Or.inl rfl))) (fun _ _ _ _ _ => by exact pts_nil) (fun _ _ _ _ _ => by exact (pe_cal C__law_lists hr (by rfl) (pa_cons (pv 1) pa_nil)))) (pv 0)))), (sf_ret (xf_ifE (bf_B (xf_is_list_tuple xf_var)) (xf_lc (wf_seq xf_var) gf_name (gw_name (by simp)) bf_yes (xf_call (af_cons xf_var af_nil))) xf_var))⟩
abbrev F__law_same : List PyData → Option PyData := F_same 5
abbrev sk0__law_shown : Scope := { kind := .function, names := [(".0", .local), ("f", .cell), ("tuple", .globalImplicit), ("keep", .cell)], isGenerator := false, isCoroutine := false }
abbrev sk1__law_shown : Scope := { kind := .function, names := [(".0", .local), ("h", .cell), ("tuple", .globalImplicit), ("f", .cell), ("keep", .cell)], isGenerator := false, isCoroutine := false }
abbrev sk2__law_shown : Scope := { kind := .function, names := [(".0", .local), ("h", .cell), ("tuple", .globalImplicit), ("f", .cell), ("keep", .cell), ("same", .cell), ("swap", .cell)], isGenerator := false, isCoroutine := false }
abbrev s__law_shown : Stmt := top 28
abbrev N__law_shown : List Str := ["keep", "same", "swap", "odd", "b", "h", "f", "lines"]
theorem sc__law_shown : FnScope N__law_shown [] (defScope s__law_shown) := ⟨rfl, rfl, rfl, by decide +kernel, rfl, by decide +kernel, by decide +kernel⟩
def X_odd : SEnv → Option PyData := (fTup (fCons (fTup (fCons (fC (.bool false)) (fCons (fC (.bool true)) fNil))) (fCons (fVar 0) (fCons (fTup (fCons (fC (.int 0)) (fCons (fC (.int 0)) fNil))) (fCons (fCB hTup (fCons (fLc (wkT (fVar 0)) (tgName 6) fYes (fCB hTup (fCons (fLc (wkT (fVar 0)) (tgName 5) fYes (fCB hTup (fCons (fLc (wkT (fVar 0)) (tgName 4) fYes (fTup (fCons (fOp gMod (fCB hInt (fCons (fOp gAdd (fOp gAdd (fVar 6) (fVar 5)) (fVar 4)) fNil)) (fC (.int 2))) (fCons (fVar 4) (fCons (fVar 0) (fCons (fVar 0) fNil))))) [4]) fNil)) [5]) fNil)) [6]) fNil)) fNil)))))
def X_line : SEnv → Option PyData := (fCB hTup (fCons (fLc (wkT (fVar 1)) (tgName 5) fYes (fCB hTup (fCons (fLc (wkT (fVar 0)) (tgName 4) fYes (fTup (fCons (fOp gMod (fCB hInt (fCons (fOp gAdd (fVar 6) (fCB hInt (fCons (fOp gNeI (fOp gFdiv (fVar 5) (fC (.int 2))) (fVar 4)) fNil))) fNil)) (fC (.int 2))) (fCons (fOp gAdd (fOp gMul (fC (.int 2)) (fVar 4)) (fOp gMod (fCB hInt (fCons (fVar 5) fNil)) (fC (.int 2)))) (fCons (fVar 1) (fCons (fIfE (fTest (fOp gNeI (fOp gFdiv (fVar 5) (fC (.int 2))) (fVar 4))) (fVar 2) (fVar 1)) fNil))))) [4]) fNil)) [5]) fNil))
def X_end : SEnv → Option PyData := (fTup (fCons (fVar 3) (fCons (fTup (fCons (fTup (fCons (fC (.bool false)) (fCons (fC (.bool true)) fNil))) (fCons (fTup (fCons (fC (.int 0)) (fCons (fC (.int 0)) (fCons (fC (.int 1)) (fCons (fC (.int 1)) fNil))))) (fCons (fTup (fCons (fC (.int 0)) (fCons (fC (.int 0)) fNil))) (fCons (fCB hTup (fCons (fVar 7) fNil)) fNil))))) fNil)))
abbrev sh1 : PyData := .tuple [.int 0, .int 1]
abbrev sh2 : PyData := .tuple [.int 0, .int 1, .int 2, .int 3]
abbrev sh3 : PyData := .tuple [.int 1, .int 0, .int 3, .int 2]
abbrev shE : SEnv := [some sh1, some sh2, some sh3, none, none, none, none, none]
def shO : PyData := (X_odd shE).getD .none
abbrev shF : SEnv := [some sh1, some sh2, some sh3, some shO, none, none, none, none]
def shR (i : Nat) : PyData := (X_line (shF.set 6 (some (.int (i : Nat))))).getD .none
def shZ : PyData := (X_end [some sh1, some sh2, some sh3, some shO, none, none, some (.int 1), some (.list [shR 0, shR 1])]).getD .none
def F__law_shown : List PyData → Option PyData := fun as => match as with
  | [] => some shZ
  | _ => none
theorem ok__law_shown {f : Addr} {fd : FuncData} (F : Fun K "_law_shown" "_law_shown" s__law_shown f fd) (T : Blt mg) (Z : Blt2 mg) : FnOk P w K mg base CX0 1 f fd [] (spD K 0 fun as d => F__law_shown as = some d) := by
  refine fn_mut F sc__law_shown rfl fun cdv A outer s H E hr => ?_
  have hu64 : (A.deeper (envOfC "_law_shown" (defScope s__law_shown) s.heap.objs.size f cdv)).units + 64 < cLine := hr.units
  refine ⟨_, (pss_cons (ps_asg (pe_tup (pa_cons (pe_tup (pa_cons pe_int (pa_cons pe_int pa_nil))) (pa_cons (pe_tup (pa_cons pe_int (pa_cons pe_int (pa_cons pe_int (pa_cons pe_int pa_nil))))) (pa_cons (pe_tup (pa_cons pe_int (pa_cons pe_int (pa_cons pe_int (pa_cons pe_int pa_nil))))) pa_nil)))) (pg_tup rfl (pgs_cons (pg_name (i := 0) sc__law_shown.nd rfl (Or.inr rfl)) (pgs_cons (pg_name (i := 1) sc__law_shown.nd rfl (Or.inr rfl)) (pgs_cons (pg_name (i := 2) sc__law_shown.nd rfl (Or.inr rfl)) pgs_nil)))))
      (pss_cons (ps_set (i := 3) sc__law_shown.nd rfl (Or.inl rfl) (pe_tup (pa_cons (pe_tup (pa_cons pe_bl (pa_cons pe_bl pa_nil))) (pa_cons (pv 0) (pa_cons (pe_tup (pa_cons pe_int (pa_cons pe_int pa_nil))) (pa_cons (pe_callTy call_tuple_of (by rfl) T.tuple (by decide +kernel) (pa_cons (pe_lc (own := [("f", 6)]) (g := (gName 6)) (tt := tYes) (te := (tCB (rTupOf K) (tCons (tLc (iTup K (tVar 0)) (gName 5) tYes (tCB (rTupOf K) (tCons (tLc (iTup K (tVar 0)) (gName 4) tYes (tTup (tCons (tOp _ (tCB _ (tCons (tOp _ (tOp _ (tVar 6) (tVar 5)) (tVar 4)) tNil)) (tC (.int 2))) (tCons (tVar 4) (tCons (tVar 0) (tCons (tVar 0) tNil))))) [4]) tNil)) [5]) tNil))) rfl sc__law_shown.nd (pi_tup (pv 0)) (blkOk_by (N := N__law_shown) (sc := defScope s__law_shown) (by decide +kernel)) (fun _ _ _ _ _ => by exact (pg_name (i := 6) sc__law_shown.nd rfl (Or.inr rfl))) (fun _ _ _ _ _ => by exact pts_nil) (fun _ _ _ _ _ => by exact (pe_callTy call_tuple_of (by rfl) T.tuple (by decide +kernel) (pa_cons (pe_lc (own := [("h", 5)]) (g := (gName 5)) (tt := tYes) (te := (tCB (rTupOf K) (tCons (tLc (iTup K (tVar 0)) (gName 4) tYes (tTup (tCons (tOp _ (tCB _ (tCons (tOp _ (tOp _ (tVar 6) (tVar 5)) (tVar 4)) tNil)) (tC (.int 2))) (tCons (tVar 4) (tCons (tVar 0) (tCons (tVar 0) tNil))))) [4]) tNil))) rfl sc__law_shown.nd (pi_tup (pv 0)) (blkOk_by (N := N__law_shown) (sc := sk0__law_shown) (by decide +kernel)) (fun _ _ _ _ _ => by exact (pg_name (i := 5) sc__law_shown.nd rfl (Or.inr rfl))) (fun _ _ _ _ _ => by exact pts_nil) (fun _ _ _ _ _ => by exact (pe_callTy call_tuple_of (by rfl) T.tuple (by decide +kernel) (pa_cons (pe_lc (own := [("b", 4)]) (g := (gName 4)) (tt := tYes) (te := (tTup (tCons (tOp _ (tCB _ (tCons (tOp _ (tOp _ (tVar 6) (tVar 5)) (tVar 4)) tNil)) (tC (.int 2))) (tCons (tVar 4) (tCons (tVar 0) (tCons (tVar 0) tNil)))))) rfl sc__law_shown.nd (pi_tup (pv 0)) (blkOk_by (N := N__law_shown) (sc := sk1__law_shown) (by decide +kernel)) (fun _ _ _ _ _ => by exact (pg_name (i := 4) sc__law_shown.nd rfl (Or.inl rfl))) (fun _ _ _ _ _ => by exact pts_nil) (fun _ _ _ _ _ => by exact (pe_tup (pa_cons (pe_op op_mod (pe_callTy call_int1 (by rfl) T.int (by decide +kernel) (pa_cons (pe_op op_add (pe_op op_add (pv 6) (pv 5)) (pv 4)) pa_nil)) pe_int) (pa_cons (pv 4) (pa_cons (pv 0) (pa_cons (pv 0) pa_nil))))))) pa_nil)))) pa_nil)))) pa_nil)) pa_nil))))))
      (pss_cons (ps_set (i := 7) sc__law_shown.nd rfl (Or.inl rfl) (pe_lst pa_nil))
      (pss_cons (ps_for PassesOwn.never rfl (pi_tup (pv 0)) (pg_name (i := 6) sc__law_shown.nd rfl (Or.inr rfl)) (pss_one (ps_expr (pe_bm PySem.F.plainAttrs_list PySem.F.slot_list_append PySem.F.type_list_append mt_append (pv 7) (pa_cons (pe_callTy call_tuple_of (by rfl) T.tuple (by decide +kernel) (pa_cons (pe_lc (own := [("h", 5)]) (g := (gName 5)) (tt := tYes) (te := (tCB (rTupOf K) (tCons (tLc (iTup K (tVar 0)) (gName 4) tYes (tTup (tCons (tOp _ (tCB _ (tCons (tOp _ (tVar 6) (tCB _ (tCons (tOp _ (tOp _ (tVar 5) (tC (.int 2))) (tVar 4)) tNil))) tNil)) (tC (.int 2))) (tCons (tOp _ (tOp _ (tC (.int 2)) (tVar 4)) (tOp _ (tCB _ (tCons (tVar 5) tNil)) (tC (.int 2)))) (tCons (tVar 1) (tCons (tIf (tTest (tOp _ (tOp _ (tVar 5) (tC (.int 2))) (tVar 4))) (tVar 2) (tVar 1)) tNil))))) [4]) tNil))) rfl sc__law_shown.nd (pi_tup (pv 1)) (blkOk_by (N := N__law_shown) (sc := defScope s__law_shown) (by decide +kernel)) (fun _ _ _ _ _ => by exact (pg_name (i := 5) sc__law_shown.nd rfl (Or.inr rfl))) (fun _ _ _ _ _ => by exact pts_nil) (fun _ _ _ _ _ => by exact (pe_callTy call_tuple_of (by rfl) T.tuple (by decide +kernel) (pa_cons (pe_lc (own := [("b", 4)]) (g := (gName 4)) (tt := tYes) (te := (tTup (tCons (tOp _ (tCB _ (tCons (tOp _ (tVar 6) (tCB _ (tCons (tOp _ (tOp _ (tVar 5) (tC (.int 2))) (tVar 4)) tNil))) tNil)) (tC (.int 2))) (tCons (tOp _ (tOp _ (tC (.int 2)) (tVar 4)) (tOp _ (tCB _ (tCons (tVar 5) tNil)) (tC (.int 2)))) (tCons (tVar 1) (tCons (tIf (tTest (tOp _ (tOp _ (tVar 5) (tC (.int 2))) (tVar 4))) (tVar 2) (tVar 1)) tNil)))))) rfl sc__law_shown.nd (pi_tup (pv 0)) (blkOk_by (N := N__law_shown) (sc := sk2__law_shown) (by decide +kernel)) (fun _ _ _ _ _ => by exact (pg_name (i := 4) sc__law_shown.nd rfl (Or.inl rfl))) (fun _ _ _ _ _ => by exact pts_nil) (fun _ _ _ _ _ => by exact (pe_tup (pa_cons (pe_op op_mod (pe_callTy call_int1 (by rfl) T.int (by decide +kernel) (pa_cons (pe_op op_add (pv 6) (pe_callTy call_int1 (by rfl) T.int (by decide +kernel) (pa_cons (pe_cmpR op_ne (pe_op op_fdiv (pv 5) pe_int) (pv 4) (nomark _)) pa_nil))) pa_nil)) pe_int) (pa_cons (pe_op op_add (pe_op op_mul pe_int (pv 4)) (pe_op op_mod (pe_callTy call_int1 (by rfl) T.int (by decide +kernel) (pa_cons (pv 5) pa_nil)) pe_int)) (pa_cons (pv 1) (pa_cons (pe_ifExp (pt_cmpR op_ne (pe_op op_fdiv (pv 5) pe_int) (pv 4) (nomark _)) (pv 2) (pv 1)) pa_nil))))))) pa_nil)))) pa_nil)) pa_nil)))))
      (pss_one (ps_ret (pe_tup (pa_cons (pv 3) (pa_cons (pe_tup (pa_cons (pe_tup (pa_cons pe_bl (pa_cons pe_bl pa_nil))) (pa_cons (pe_tup (pa_cons pe_int (pa_cons pe_int (pa_cons pe_int (pa_cons pe_int pa_nil))))) (pa_cons (pe_tup (pa_cons pe_int (pa_cons pe_int pa_nil))) (pa_cons (pe_callTy call_tuple_of (by rfl) T.tuple (by decide +kernel) (pa_cons (pv 7) pa_nil)) pa_nil))))) pa_nil))))))))), fun as d hl hR => ?_⟩
  cases as with
  | cons x xs => cases hl
  | nil => ?_
  cases hR
  refine mr_seq (mn_asg (vs := [0, 1, 2]) (e := .tuple [sh1, sh2, sh3]) (em_pure fun O => (xf_tup (af_cons (xf_tup (af_cons xf_int (af_cons xf_int af_nil))) (af_cons (xf_tup (af_cons xf_int (af_cons xf_int (af_cons xf_int (af_cons xf_int af_nil))))) (af_cons (xf_tup (af_cons xf_int (af_cons xf_int (af_cons xf_int (af_cons xf_int af_nil))))) af_nil)))) O _ _ rfl) (gs_three (by simp) (by simp) (by simp)) (fun m hm => by cases hm)) ?_
  refine mr_seq (mn_set (i := 3) (e := shO) (em_pure fun O => (show Evf K _ X_odd from (xf_tup (af_cons (xf_tup (af_cons xf_bl (af_cons xf_bl af_nil))) (af_cons xf_var (af_cons (xf_tup (af_cons xf_int (af_cons xf_int af_nil))) (af_cons (xf_cb (af_cons (xf_lc (wf_tup xf_var) gf_name (gw_name (by simp)) bf_yes (xf_cb (af_cons (xf_lc (wf_tup xf_var) gf_name (gw_name (by simp)) bf_yes (xf_cb (af_cons (xf_lc (wf_tup xf_var) gf_name (gw_name (by simp)) bf_yes (xf_tup (af_cons (xf_op (xf_cb (af_cons (xf_op (xf_op xf_var xf_var of_add) xf_var of_add) af_nil) hf_int) xf_int of_mod) (af_cons xf_var (af_cons xf_var (af_cons xf_var af_nil)))))) af_nil) hf_tup)) af_nil) hf_tup)) af_nil) hf_tup) af_nil)))))) O _ _ (some_getD (by decide +kernel))) (fun m hm => by cases hm)) ?_
  refine mr_seq (mn_new (es := []) (fun O => ef_lst ea_nil (by decide)) (fun m hm => by cases hm) (by decide)) ?_
  refine mr_seq (mn_for (es := [.int 0, .int 1]) (fun i => [(7, .l ([shR 0, shR 1].take i))]) (fun i => match i with | 0 => shF | i + 1 => shF.set 6 (some (.int (i : Nat)))) (fun O => (wf_tup xf_var) O _ _ rfl) fun i e he => ?tn) ?_
  case tn =>
    match i, he with
    | 0, he =>
      cases he
      exact ⟨_, [6], gs_name (by simp), fun m hm => (by cases List.mem_singleton.mp hm; decide), mn_append (k := 0) (i := 7) (M := [(7, .l [])]) (es := []) (e := shR 0) (ds := shF.set 6 (some (.int 0))) rfl (em_pure fun O => (show Evf K _ X_line from (xf_cb (af_cons (xf_lc (wf_tup xf_var) gf_name (gw_name (by simp)) bf_yes (xf_cb (af_cons (xf_lc (wf_tup xf_var) gf_name (gw_name (by simp)) bf_yes (xf_tup (af_cons (xf_op (xf_cb (af_cons (xf_op xf_var (xf_cb (af_cons (xf_op (xf_op xf_var xf_int of_fdiv) xf_var of_neI) af_nil) hf_int) of_add) af_nil) hf_int) xf_int of_mod) (af_cons (xf_op (xf_op xf_int xf_var of_mul) (xf_op (xf_cb (af_cons xf_var af_nil) hf_int) xf_int of_mod) of_add) (af_cons xf_var (af_cons (xf_ifE (bf_test (xf_op (xf_op xf_var xf_int of_fdiv) xf_var of_neI)) xf_var xf_var) af_nil)))))) af_nil) hf_tup)) af_nil) hf_tup)) O (shF.set 6 (some (.int 0))) (shR 0) (some_getD (by decide +kernel))) (by show 0 < sizeLine; decide)⟩
    | 1, he =>
      cases he
      exact ⟨_, [6], gs_name (by simp), fun m hm => (by cases List.mem_singleton.mp hm; decide), mn_append (k := 0) (i := 7) (M := [(7, .l [shR 0])]) (es := [shR 0]) (e := shR 1) (ds := (shF.set 6 (some (.int 0))).set 6 (some (.int 1))) rfl (em_pure fun O => (show Evf K _ X_line from (xf_cb (af_cons (xf_lc (wf_tup xf_var) gf_name (gw_name (by simp)) bf_yes (xf_cb (af_cons (xf_lc (wf_tup xf_var) gf_name (gw_name (by simp)) bf_yes (xf_tup (af_cons (xf_op (xf_cb (af_cons (xf_op xf_var (xf_cb (af_cons (xf_op (xf_op xf_var xf_int of_fdiv) xf_var of_neI) af_nil) hf_int) of_add) af_nil) hf_int) xf_int of_mod) (af_cons (xf_op (xf_op xf_int xf_var of_mul) (xf_op (xf_cb (af_cons xf_var af_nil) hf_int) xf_int of_mod) of_add) (af_cons xf_var (af_cons (xf_ifE (bf_test (xf_op (xf_op xf_var xf_int of_fdiv) xf_var of_neI)) xf_var xf_var) af_nil)))))) af_nil) hf_tup)) af_nil) hf_tup)) O ((shF.set 6 (some (.int 0))).set 6 (some (.int 1))) (shR 1) (some_getD (by decide +kernel))) (by show 1 < sizeLine; decide)⟩
    | i + 2, he => exact absurd he (by simp)
  exact mr_ret ((show Evf K _ X_end from (xf_tup (af_cons xf_var (af_cons (xf_tup (af_cons (xf_tup (af_cons xf_bl (af_cons xf_bl af_nil))) (af_cons (xf_tup (af_cons xf_int (af_cons xf_int (af_cons xf_int (af_cons xf_int af_nil))))) (af_cons (xf_tup (af_cons xf_int (af_cons xf_int af_nil))) (af_cons (xf_cb (af_cons xf_var af_nil) hf_tup) af_nil))))) af_nil)))) _ _ _ (some_getD (by decide +kernel)))
end
end K13
namespace K13
open PySem PySem.Spec PyProof.Rows L2 Ph
section
variable {P : Program} {w : World} {K : PySem.W.Frag} {mg : Str → Option Value} {base : Heap}
abbrev s__law_by_hand_right : Stmt := top 39
abbrev N__law_by_hand_right : List Str := ["odd", "sides", "line", "bads", "own", "got"]
theorem sc__law_by_hand_right : FnScope N__law_by_hand_right [] (defScope s__law_by_hand_right) := ⟨rfl, rfl, rfl, by decide +kernel, rfl, by decide +kernel, by decide +kernel⟩
def F__law_by_hand_right : List PyData → Option PyData := defF N__law_by_hand_right (sSeq (sAsg (fCall 0 F__law_shown fNil) (tgTwo 0 1))
      (sSeq (sAsg (fOp gIxT (fOp gIxT (fOp gIxT (fVar 0) (fC (.int 3))) (fC (.int 0))) (fC (.int 0))) (tgName 2))
      (sSeq (sAsg (fLc (wkT (fTup (fCons (fTup (fCons (fC (.int 0)) (fCons (fC (.int 0)) (fCons (fTup (fCons (fC (.int 0)) (fCons (fC (.int 1)) fNil))) (fCons (fTup (fCons (fC (.int 0)) (fCons (fC (.int 1)) fNil))) fNil))))) (fCons (fTup (fCons (fC (.int 0)) (fCons (fC (.int 1)) (fCons (fTup (fCons (fC (.int 1)) (fCons (fC (.int 1)) fNil))) (fCons (fTup (fCons (fC (.int 0)) (fCons (fC (.int 1)) fNil))) fNil))))) (fCons (fTup (fCons (fC (.int 0)) (fCons (fC (.int 1)) (fCons (fTup (fCons (fC (.int 0)) (fCons (fC (.int 1)) fNil))) (fCons (fTup (fCons (fC (.int 0)) fNil)) fNil))))) fNil))))) (tgName 4) fYes (fCall 3 F__law_put (fCons (fVar 0) (fCons (fC (.int 3)) (fCons (fCall 3 F__law_put (fCons (fOp gIxT (fVar 0) (fC (.int 3))) (fCons (fC (.int 0)) (fCons (fCall 3 F__law_put (fCons (fOp gIxT (fOp gIxT (fVar 0) (fC (.int 3))) (fC (.int 0))) (fCons (fC (.int 0)) (fCons (fCall 3 F__law_put (fCons (fVar 2) (fCons (fC (.int 1)) (fCons (fVar 4) fNil)))) fNil)))) fNil)))) fNil)))) [4]) (tgName 3))
      (sSeq (sAsg (fOp gCatL (fVar 3) (fLst (fCons (fCall 3 F__law_put (fCons (fVar 0) (fCons (fC (.int 1)) (fCons (fTup (fCons (fC (.int 0)) (fCons (fC (.int 0)) fNil))) fNil)))) (fCons (fCall 3 F__law_put (fCons (fVar 0) (fCons (fC (.int 2)) (fCons (fTup (fCons (fC (.int 0)) (fCons (fC (.int 1)) fNil))) fNil)))) (fCons (fCall 3 F__law_put (fCons (fVar 0) (fCons (fC (.int 0)) (fCons (fTup (fCons (fC (.int 0)) (fCons (fC (.int 1)) fNil))) fNil)))) (fCons (fSlT (fVar 0) oNone (oSome (fC (.int 3)))) fNil)))))) (tgName 3))
      (sSeq (sAsg (fLst (fCons (fCall 1 F_is_book (fCons (fVar 0) fNil)) (fCons (fCall 1 F_is_book (fCons (fVar 1) fNil)) (fCons (fLc (wkL (fVar 3)) (tgName 4) fYes (fCall 1 F_is_book (fCons (fVar 4) fNil)) [4]) (fCons (fLc (wkL (fVar 3)) (tgName 4) fYes (fCall 1 F__law_is_book (fCons (fVar 4) fNil)) [4]) (fCons (fCall 1 F__law_is_book (fCons (fVar 0) fNil)) fNil)))))) (tgName 5))
      (sSeq (sAsg (fOp gCatL (fVar 5) (fLst (fCons (fLc (wkT (fTup (fCons (fTup (fCons (fC (.int 0)) (fCons (fTup (fCons (fC (.int 0)) (fCons (fC (.int 1)) fNil))) fNil))) (fCons (fTup (fCons (fC (.int 2)) (fCons (fTup (fCons (fC (.int 0)) fNil)) fNil))) (fCons (fTup (fCons (fC (.int 0)) (fCons (fTup fNil) fNil))) (fCons (fTup (fCons (fC (.int 0)) (fCons (fTup (fCons (fC (.int 2)) fNil)) fNil))) (fCons (fTup (fCons (fC (.int 0)) (fCons (fTup (fCons (fC (.bool true)) fNil)) fNil))) fNil))))))) (tgName 4) fYes (fCall 2 F_is_stand (fCons (fVar 0) (fCons (fVar 4) fNil))) [4]) fNil))) (tgName 5))
      (sRet (fCall 2 F__law_same (fCons (fVar 5) (fCons (fLst (fCons (fC (.bool true)) (fCons (fC (.bool true)) (fCons (fOp gRepL (fLst (fCons (fC (.bool false)) fNil)) (fC (.int 7))) (fCons (fOp gRepL (fLst (fCons (fC (.bool false)) fNil)) (fC (.int 7))) (fCons (fC (.bool true)) (fCons (fOp gCatL (fLst (fCons (fC (.bool true)) fNil)) (fOp gRepL (fLst (fCons (fC (.bool false)) fNil)) (fC (.int 4)))) fNil))))))) fNil))))))))))
theorem ok__law_by_hand_right {f : Addr} {fd : FuncData} (F : Fun K "_law_by_hand_right" "_law_by_hand_right" s__law_by_hand_right f fd) (T : Blt mg) (Z : Blt2 mg) (C__law_shown : Cal P w K mg base "_law_shown" 1 [] (spD K 0 fun as d => F__law_shown as = some d)) (C__law_put : Cal P w K mg base "_law_put" 1 ["row", "at", "thing"] (spD K 3 fun as d => F__law_put as = some d)) (C__law_is_book : Cal P w K mg base "_law_is_book" 5 ["thing"] (spD K 1 fun as d => F__law_is_book as = some d)) (C_is_book : Cal P w K mg base "is_book" 9 ["thing"] (spD K 1 fun as d => F_is_book as = some d)) (C_is_stand : Cal P w K mg base "is_stand" 5 ["book", "thing"] (spD K 2 fun as d => F_is_stand as = some d)) (C__law_same : Cal P w K mg base "_law_same" 6 ["got", "goal"] (spD K 2 fun as d => F__law_same as = some d)) : FnOk P w K mg base CX0 10 f fd [] (spD K 0 fun as d => F__law_by_hand_right as = some d) := by
  refine fn_F F sc__law_by_hand_right rfl fun cdv A outer s H E hr => ?_
  have hu64 : (A.deeper (envOfC "_law_by_hand_right" (defScope s__law_by_hand_right) s.heap.objs.size f cdv)).units + 64 < cLine := hr.units
  exact ⟨_, (pss_cons (ps_asg (pe_cal0 C__law_shown (hr.mono (by decide)) (by rfl)) (pg_tup rfl (pgs_cons (pg_name (i := 0) sc__law_by_hand_right.nd rfl (Or.inr rfl)) (pgs_cons (pg_name (i := 1) sc__law_by_hand_right.nd rfl (Or.inl rfl)) pgs_nil))))
      (pss_cons (ps_set (i := 2) sc__law_by_hand_right.nd rfl (Or.inr rfl) (pe_ix ix_tup (pe_ix ix_tup (pe_ix ix_tup (pv 0) pe_int (fun _ _ => rfl)) pe_int (fun _ _ => rfl)) pe_int (fun _ _ => rfl)))
      (pss_cons (ps_setLc (i := 3) (own := [("own", 4)]) (g := (gName 4)) (tt := tYes) (te := (tCall (spHide _) [] E0 (tCons (tVar 0) (tCons (tC (.int 3)) (tCons (tCall (spHide _) [] E0 (tCons (tOp (rIxT K) (tVar 0) (tC (.int 3))) (tCons (tC (.int 0)) (tCons (tCall (spHide _) [] E0 (tCons (tOp (rIxT K) (tOp (rIxT K) (tVar 0) (tC (.int 3))) (tC (.int 0))) (tCons (tC (.int 0)) (tCons (tCall (spHide _) [] E0 (tCons (tVar 2) (tCons (tC (.int 1)) (tCons (tVar 4) tNil)))) tNil)))) tNil)))) tNil))))) rfl sc__law_by_hand_right.nd rfl rfl (sw_true rfl rfl rfl (by decide +kernel)) (pi_tup (pe_tup (pa_cons (pe_tup (pa_cons pe_int (pa_cons pe_int (pa_cons (pe_tup (pa_cons pe_int (pa_cons pe_int pa_nil))) (pa_cons (pe_tup (pa_cons pe_int (pa_cons pe_int pa_nil))) pa_nil))))) (pa_cons (pe_tup (pa_cons pe_int (pa_cons pe_int (pa_cons (pe_tup (pa_cons pe_int (pa_cons pe_int pa_nil))) (pa_cons (pe_tup (pa_cons pe_int (pa_cons pe_int pa_nil))) pa_nil))))) (pa_cons (pe_tup (pa_cons pe_int (pa_cons pe_int (pa_cons (pe_tup (pa_cons pe_int (pa_cons pe_int pa_nil))) (pa_cons (pe_tup (pa_cons pe_int pa_nil)) pa_nil))))) pa_nil))))) (blkOk_by (N := N__law_by_hand_right) (sc := defScope s__law_by_hand_right) (by decide +kernel)) (fun _ _ _ _ _ => by exact (pg_name (i := 4) sc__law_by_hand_right.nd rfl (Or.inl rfl))) (fun _ _ _ _ _ => by exact pts_nil) (fun _ _ _ _ _ => by exact (pe_cal C__law_put (hr.mono (by decide)) (by rfl) (pa_cons (pv 0) (pa_cons pe_int (pa_cons (pe_cal C__law_put (hr.mono (by decide)) (by rfl) (pa_cons (pe_ix ix_tup (pv 0) pe_int (fun _ _ => rfl)) (pa_cons pe_int (pa_cons (pe_cal C__law_put (hr.mono (by decide)) (by rfl) (pa_cons (pe_ix ix_tup (pe_ix ix_tup (pv 0) pe_int (fun _ _ => rfl)) pe_int (fun _ _ => rfl)) (pa_cons pe_int (pa_cons (pe_cal C__law_put (hr.mono (by decide)) (by rfl) (pa_cons (pv 2) (pa_cons pe_int (pa_cons (pv 4) pa_nil)))) pa_nil)))) pa_nil)))) pa_nil))))))
      (pss_cons (ps_set (i := 3) sc__law_by_hand_right.nd rfl (Or.inl rfl) (pe_op op_cat (pv 3) (pe_lst (pa_cons (pe_cal C__law_put (hr.mono (by decide)) (by rfl) (pa_cons (pv 0) (pa_cons pe_int (pa_cons (pe_tup (pa_cons pe_int (pa_cons pe_int pa_nil))) pa_nil)))) (pa_cons (pe_cal C__law_put (hr.mono (by decide)) (by rfl) (pa_cons (pv 0) (pa_cons pe_int (pa_cons (pe_tup (pa_cons pe_int (pa_cons pe_int pa_nil))) pa_nil)))) (pa_cons (pe_cal C__law_put (hr.mono (by decide)) (by rfl) (pa_cons (pv 0) (pa_cons pe_int (pa_cons (pe_tup (pa_cons pe_int (pa_cons pe_int pa_nil))) pa_nil)))) (pa_cons (pe_slice sl_tupA (pv 0) po_none (po_some pe_int)) pa_nil)))))))
      (pss_cons (ps_set (i := 5) sc__law_by_hand_right.nd rfl (Or.inl rfl) (pe_lst (pa_cons (pe_cal C_is_book (hr.mono (by decide)) (by rfl) (pa_cons (pv 0) pa_nil)) (pa_cons (pe_cal C_is_book (hr.mono (by decide)) (by rfl) (pa_cons (pv 1) pa_nil)) (pa_cons (pe_lc (own := [("own", 4)]) (g := (gName 4)) (tt := tYes) (te := (tCall (spHide _) [] E0 (tCons (tVar 4) tNil))) rfl sc__law_by_hand_right.nd (pi_list (pv 3)) (blkOk_by (N := N__law_by_hand_right) (sc := defScope s__law_by_hand_right) (by decide +kernel)) (fun _ _ _ _ _ => by exact (pg_name (i := 4) sc__law_by_hand_right.nd rfl (Or.inl rfl))) (fun _ _ _ _ _ => by exact pts_nil) (fun _ _ _ _ _ => by exact (pe_cal C_is_book (hr.mono (by decide)) (by rfl) (pa_cons (pv 4) pa_nil)))) (pa_cons (pe_lc (own := [("own", 4)]) (g := (gName 4)) (tt := tYes) (te := (tCall (spHide _) [] E0 (tCons (tVar 4) tNil))) rfl sc__law_by_hand_right.nd (pi_list (pv 3)) (blkOk_by (N := N__law_by_hand_right) (sc := defScope s__law_by_hand_right) (by decide +kernel)) (fun _ _ _ _ _ => by exact (pg_name (i := 4) sc__law_by_hand_right.nd rfl (Or.inl rfl))) (fun _ _ _ _ _ => by exact pts_nil) (fun _ _ _ _ _ => by exact (pe_cal C__law_is_book (hr.mono (by decide)) (by rfl) (pa_cons (pv 4) pa_nil)))) (pa_cons (pe_cal C__law_is_book (hr.mono (by decide)) (by rfl) (pa_cons (pv 0) pa_nil)) pa_nil)))))))
      (pss_cons (ps_set (i := 5) sc__law_by_hand_right.nd rfl (Or.inl rfl) (pe_op op_cat (pv 5) (pe_lst (pa_cons (pe_lc (own := [("own", 4)]) (g := (gName 4)) (tt := tYes) (te := (tCall (spHide _) [] E0 (tCons (tVar 0) (tCons (tVar 4) tNil)))) rfl sc__law_by_hand_right.nd (pi_tup (pe_tup (pa_cons (pe_tup (pa_cons pe_int (pa_cons (pe_tup (pa_cons pe_int (pa_cons pe_int pa_nil))) pa_nil))) (pa_cons (pe_tup (pa_cons pe_int (pa_cons (pe_tup (pa_cons pe_int pa_nil)) pa_nil))) (pa_cons (pe_tup (pa_cons pe_int (pa_cons (pe_tup pa_nil) pa_nil))) (pa_cons (pe_tup (pa_cons pe_int (pa_cons (pe_tup (pa_cons pe_int pa_nil)) pa_nil))) (pa_cons (pe_tup (pa_cons pe_int (pa_cons (pe_tup (pa_cons pe_bl pa_nil)) pa_nil))) pa_nil))))))) (blkOk_by (N := N__law_by_hand_right) (sc := defScope s__law_by_hand_right) (by decide +kernel)) (fun _ _ _ _ _ => by exact (pg_name (i := 4) sc__law_by_hand_right.nd rfl (Or.inl rfl))) (fun _ _ _ _ _ => by exact pts_nil) (fun _ _ _ _ _ => by exact (pe_cal C_is_stand (hr.mono (by decide)) (by rfl) (pa_cons (pv 0) (pa_cons (pv 4) pa_nil))))) pa_nil))))
      (pss_one (ps_ret (pe_cal C__law_same (hr.mono (by decide)) (by rfl) (pa_cons (pv 5) (pa_cons (pe_lst (pa_cons pe_bl (pa_cons pe_bl (pa_cons (pe_op op_rep (pe_lst (pa_cons pe_bl pa_nil)) pe_int) (pa_cons (pe_op op_rep (pe_lst (pa_cons pe_bl pa_nil)) pe_int) (pa_cons pe_bl (pa_cons (pe_op op_cat (pe_lst (pa_cons pe_bl pa_nil)) (pe_op op_rep (pe_lst (pa_cons pe_bl pa_nil)) pe_int)) pa_nil))))))) pa_nil))))))))))), (sf_seq (sf_asg (xf_call af_nil) gf_two)
      (sf_seq (sf_asg (xf_op (xf_op (xf_op xf_var xf_int of_ixT) xf_int of_ixT) xf_int of_ixT) gf_name)
      (sf_seq (sf_asg (xf_lc (wf_tup (xf_tup (af_cons (xf_tup (af_cons xf_int (af_cons xf_int (af_cons (xf_tup (af_cons xf_int (af_cons xf_int af_nil))) (af_cons (xf_tup (af_cons xf_int (af_cons xf_int af_nil))) af_nil))))) (af_cons (xf_tup (af_cons xf_int (af_cons xf_int (af_cons (xf_tup (af_cons xf_int (af_cons xf_int af_nil))) (af_cons (xf_tup (af_cons xf_int (af_cons xf_int af_nil))) af_nil))))) (af_cons (xf_tup (af_cons xf_int (af_cons xf_int (af_cons (xf_tup (af_cons xf_int (af_cons xf_int af_nil))) (af_cons (xf_tup (af_cons xf_int af_nil)) af_nil))))) af_nil))))) gf_name (gw_name (by simp)) bf_yes (xf_call (af_cons xf_var (af_cons xf_int (af_cons (xf_call (af_cons (xf_op xf_var xf_int of_ixT) (af_cons xf_int (af_cons (xf_call (af_cons (xf_op (xf_op xf_var xf_int of_ixT) xf_int of_ixT) (af_cons xf_int (af_cons (xf_call (af_cons xf_var (af_cons xf_int (af_cons xf_var af_nil)))) af_nil)))) af_nil)))) af_nil))))) gf_name)
      (sf_seq (sf_asg (xf_op xf_var (xf_lst (af_cons (xf_call (af_cons xf_var (af_cons xf_int (af_cons (xf_tup (af_cons xf_int (af_cons xf_int af_nil))) af_nil)))) (af_cons (xf_call (af_cons xf_var (af_cons xf_int (af_cons (xf_tup (af_cons xf_int (af_cons xf_int af_nil))) af_nil)))) (af_cons (xf_call (af_cons xf_var (af_cons xf_int (af_cons (xf_tup (af_cons xf_int (af_cons xf_int af_nil))) af_nil)))) (af_cons (xf_slT xf_var po_no (po_is xf_int)) af_nil))))) of_catL) gf_name)
      (sf_seq (sf_asg (xf_lst (af_cons (xf_call (af_cons xf_var af_nil)) (af_cons (xf_call (af_cons xf_var af_nil)) (af_cons (xf_lc (wf_lst xf_var) gf_name (gw_name (by simp)) bf_yes (xf_call (af_cons xf_var af_nil))) (af_cons (xf_lc (wf_lst xf_var) gf_name (gw_name (by simp)) bf_yes (xf_call (af_cons xf_var af_nil))) (af_cons (xf_call (af_cons xf_var af_nil)) af_nil)))))) gf_name)
      (sf_seq (sf_asg (xf_op xf_var (xf_lst (af_cons (xf_lc (wf_tup (xf_tup (af_cons (xf_tup (af_cons xf_int (af_cons (xf_tup (af_cons xf_int (af_cons xf_int af_nil))) af_nil))) (af_cons (xf_tup (af_cons xf_int (af_cons (xf_tup (af_cons xf_int af_nil)) af_nil))) (af_cons (xf_tup (af_cons xf_int (af_cons (xf_tup af_nil) af_nil))) (af_cons (xf_tup (af_cons xf_int (af_cons (xf_tup (af_cons xf_int af_nil)) af_nil))) (af_cons (xf_tup (af_cons xf_int (af_cons (xf_tup (af_cons xf_bl af_nil)) af_nil))) af_nil))))))) gf_name (gw_name (by simp)) bf_yes (xf_call (af_cons xf_var (af_cons xf_var af_nil)))) af_nil)) of_catL) gf_name)
      (sf_ret (xf_call (af_cons xf_var (af_cons (xf_lst (af_cons xf_bl (af_cons xf_bl (af_cons (xf_op (xf_lst (af_cons xf_bl af_nil)) xf_int of_repL) (af_cons (xf_op (xf_lst (af_cons xf_bl af_nil)) xf_int of_repL) (af_cons xf_bl (af_cons (xf_op (xf_lst (af_cons xf_bl af_nil)) (xf_op (xf_lst (af_cons xf_bl af_nil)) xf_int of_repL) of_catL) af_nil))))))) af_nil))))))))))⟩
theorem by_hand : F__law_by_hand_right [] = some (.bool true) := by
  have h : (F__law_by_hand_right []).bind asB = some true := by decide +kernel
  obtain ⟨x, a, h⟩ := bnd h
  rw [a, asB_eq h]
end
end K13
namespace K13
open PySem Ph
/-- the value of a call is a truth -/
abbrev Ans (r : Option PyData) (b : Bool) : Prop := r = some (.bool b)
def isN : PyData → Bool
  | .int _ => true
  | _ => false
def inR (d : PyData) (n : Int) : Bool := match d with
  | .int i => decide (0 ≤ i) && decide (i < n)
  | _ => false
def tupOf (d : PyData) (n : Int) : Bool := match d with
  | .tuple es => decide ((es.length : Int) = n)
  | _ => false
theorem num_ok (d : PyData) : Ans (F_is_number [d]) (isN d) := by
  unfold F_is_number
  cases d <;> simp [isN, defF, startD, sRet, sSeq, sIf, sSkip, sAsg, fVar, fC, fNil, fCons, fTup, fLst, fOp, fCall, fCB, fIs, fTest, fNotT, fAndT, fOrT, fAnd, fOr, fNot, fIfE, fChain, asB, gI, gAdd, Ph.gSub, gLt, gLe, gGt, gGe, gEqI, gNeI, hLen, Ph.isInt, Ph.isBool, Ph.isTuple, tgName, tgTwo, tgFour]
theorem tof_ok (d : PyData) (n : Int) : Ans (F_is_tuple_of [d, .int n]) (tupOf d n) := by
  unfold F_is_tuple_of
  cases d <;> simp [tupOf, defF, startD, sRet, sSeq, sIf, sSkip, sAsg, fVar, fC, fNil, fCons, fTup, fLst, fOp, fCall, fCB, fIs, fTest, fNotT, fAndT, fOrT, fAnd, fOr, fNot, fIfE, fChain, asB, gI, gAdd, Ph.gSub, gLt, gLe, gGt, gGe, gEqI, gNeI, hLen, Ph.isInt, Ph.isBool, Ph.isTuple, tgName, tgTwo, tgFour]
theorem flag_ok (d : PyData) (n : Int) : Ans (F__is_flag [d, .int n]) (inR d n) := by
  unfold F__is_flag
  cases d <;> simp [num_ok, isN, inR, defF, startD, sRet, sSeq, sIf, sSkip, sAsg, fVar, fC, fNil, fCons, fTup, fLst, fOp, fCall, fCB, fIs, fTest, fNotT, fAndT, fOrT, fAnd, fOr, fNot, fIfE, fChain, asB, gI, gAdd, Ph.gSub, gLt, gLe, gGt, gGe, gEqI, gNeI, hLen, Ph.isInt, Ph.isBool, Ph.isTuple, tgName, tgTwo, tgFour]
  rename_i i
  by_cases c : 0 ≤ i <;> simp [c, defF, startD, sRet, sSeq, sIf, sSkip, sAsg, fVar, fC, fNil, fCons, fTup, fLst, fOp, fCall, fCB, fIs, fTest, fNotT, fAndT, fOrT, fAnd, fOr, fNot, fIfE, fChain, asB, gI, gAdd, Ph.gSub, gLt, gLe, gGt, gGe, gEqI, gNeI, hLen, Ph.isInt, Ph.isBool, Ph.isTuple, tgName, tgTwo, tgFour]
theorem lnum_ok (d : PyData) (n : Int) : Ans (F__law_is_number [d, .int n]) (inR d n) := by
  unfold F__law_is_number
  cases d <;> simp [inR, defF, startD, sRet, sSeq, sIf, sSkip, sAsg, fVar, fC, fNil, fCons, fTup, fLst, fOp, fCall, fCB, fIs, fTest, fNotT, fAndT, fOrT, fAnd, fOr, fNot, fIfE, fChain, asB, gI, gAdd, Ph.gSub, gLt, gLe, gGt, gGe, gEqI, gNeI, hLen, Ph.isInt, Ph.isBool, Ph.isTuple, tgName, tgTwo, tgFour]
  rename_i i
  by_cases c : 0 ≤ i <;> simp [c, defF, startD, sRet, sSeq, sIf, sSkip, sAsg, fVar, fC, fNil, fCons, fTup, fLst, fOp, fCall, fCB, fIs, fTest, fNotT, fAndT, fOrT, fAnd, fOr, fNot, fIfE, fChain, asB, gI, gAdd, Ph.gSub, gLt, gLe, gGt, gGe, gEqI, gNeI, hLen, Ph.isInt, Ph.isBool, Ph.isTuple, tgName, tgTwo, tgFour]
theorem lline_ok (d : PyData) (n : Int) : Ans (F__law_is_line [d, .int n]) (tupOf d n) := by
  unfold F__law_is_line
  cases d <;> simp [tupOf, defF, startD, sRet, sSeq, sIf, sSkip, sAsg, fVar, fC, fNil, fCons, fTup, fLst, fOp, fCall, fCB, fIs, fTest, fNotT, fAndT, fOrT, fAnd, fOr, fNot, fIfE, fChain, asB, gI, gAdd, Ph.gSub, gLt, gLe, gGt, gGe, gEqI, gNeI, hLen, Ph.isInt, Ph.isBool, Ph.isTuple, tgName, tgTwo, tgFour]
/-- a comprehension, item by item -/
theorem lc_map {gt : SEnv → PyData → Option SEnv} {p : SEnv → Option Bool} {f : SEnv → PyData → PyData} {ff : SEnv → Option PyData} {w : SEnv} {k : PyData → Bool} {g : PyData → PyData} : ∀ {xs : List PyData}, (∀ x ∈ xs, ∃ e, gt w x = some e ∧ p e = some (k x) ∧ (k x = true → ff e = some (g x))) → lcGo gt p ff w xs = some ((xs.filter k).map g)
  | [], _ => rfl
  | x :: xs, h => by
    obtain ⟨e, h1, h2, h3⟩ := h x List.mem_cons_self
    have ih := lc_map (f := f) (xs := xs) fun y m => h y (List.mem_cons_of_mem _ m)
    unfold lcGo
    rw [h1, Option.bind_some, h2, Option.bind_some, ih]
    cases c : k x with
    | true => rw [if_pos rfl, h3 c, List.filter_cons_of_pos c]; rfl
    | false => rw [if_neg (by decide), List.filter_cons_of_neg (by simp [c])]
theorem lc_tup {gt : SEnv → PyData → Option SEnv} {ff : SEnv → Option PyData} {w : SEnv} {g : PyData → PyData} {xs : List PyData} (h : ∀ x ∈ xs, ∃ e, gt w x = some e ∧ ff e = some (g x)) : lcGo gt fYes ff w xs = some (xs.map g) := by
  have z := lc_map (gt := gt) (p := fYes) (f := fun _ x => x) (ff := ff) (w := w) (k := fun _ => true) (g := g) (xs := xs) fun x m => by
    obtain ⟨e, a, b⟩ := h x m
    exact ⟨e, a, rfl, fun _ => b⟩
  rwa [List.filter_eq_self.mpr (fun _ _ => rfl)] at z
theorem bools_all (f : PyData → Bool) : ∀ xs : List PyData, bools (xs.map fun x => .bool (f x)) = some (xs.map f)
  | [] => rfl
  | x :: xs => by
    show (bools (xs.map fun x => .bool (f x))).bind _ = _
    rw [bools_all f xs]; rfl
/-- all([f(x) for x in xs]) -/
theorem hall_lc {gt : SEnv → PyData → Option SEnv} {ff : SEnv → Option PyData} {w : SEnv} {f : PyData → Bool} {xs : List PyData} {vs : List Nat} {ds : SEnv} {q : SEnv → Option (List PyData)} (hq : q ds = some xs) (hl : xs.length ≤ 1000000) (hw : wipeD ds vs = w) (h : ∀ x ∈ xs, ∃ e, gt w x = some e ∧ ff e = some (.bool (f x))) :
    (fCB hAll (fCons (fLc q gt fYes ff vs) fNil)) ds = some (.bool (xs.all f)) := by
  have z := lc_tup (g := fun x => .bool (f x)) h
  unfold fLc
  simp only [fCB, fCons, fNil, hq, Option.bind_some, if_pos hl, hw, z, hAll, bools_all, List.all_map]
  rfl
def nums? : PyData → Option (List Int)
  | .tuple es => intsOf es
  | _ => none
def short : PyData → Prop
  | .tuple es => es.length ≤ 1000
  | .list es => es.length ≤ 1000
  | _ => True
theorem intsOf_map : ∀ ns : List Int, intsOf (ns.map PyData.int) = some ns
  | [] => rfl
  | n :: ns => by
    show (intsOf (ns.map PyData.int)).bind _ = _
    rw [intsOf_map ns]; rfl
theorem intsOf_all : ∀ es : List PyData, (intsOf es).isSome = es.all isN
  | [] => rfl
  | e :: es => by
    rw [List.all_cons, ← intsOf_all es]
    cases e <;> simp [intsOf, isN]
    cases intsOf es <;> rfl
theorem intsOf_eq : ∀ {es : List PyData} {ns : List Int}, intsOf es = some ns → es = ns.map PyData.int
  | [], ns, h => by cases h; rfl
  | .int i :: es, ns, h => by
    unfold intsOf at h
    obtain ⟨r, h1, h⟩ := bnd h
    cases h
    rw [intsOf_eq h1]; rfl
  | .none :: _, _, h => by cases h
  | .bool _ :: _, _, h => by cases h
  | .str _ :: _, _, h => by cases h
  | .list _ :: _, _, h => by cases h
  | .tuple _ :: _, _, h => by cases h
  | .dict _ :: _, _, h => by cases h
theorem nums_eq {d : PyData} {ns : List Int} (h : nums? d = some ns) : d = .tuple (ns.map PyData.int) := by
  cases d <;> first | (cases h; done) | exact congrArg _ (intsOf_eq h)
theorem nums_tup (ns : List Int) : nums? (.tuple (ns.map PyData.int)) = some ns := intsOf_map ns
section
variable {N : List Str} {as : List PyData} {d e : PyData} {ds ds' : SEnv} {f g h : SEnv → Option PyData} {a b : Bool} {c : SEnv → Option Bool} {s : SEnv → Option Res} {n : Nat}
theorem def_ret (z : f (startD N as) = some d) : defF N (sRet f) as = some d := by
  show ((f (startD N as)).bind _).bind _ = _
  rw [z]; rfl
theorem def_s (z : s (startD N as) = some (.rt d)) : defF N s as = some d := by
  show (s (startD N as)).bind _ = _
  rw [z]; rfl
theorem test_ok (z : f ds = some (.bool a)) : fTest f ds = some a := by
  show (f ds).bind asB = _
  rw [z]; rfl
theorem and_ok (h1 : f ds = some (.bool a)) (h2 : a = true → g ds = some (.bool b)) : fAnd f g ds = some (.bool (a && b)) := by
  unfold fAnd
  rw [test_ok h1, Option.bind_some]
  cases a with
  | true => rw [if_pos rfl, test_ok (h2 rfl)]; rfl
  | false => rfl
theorem notT_ok (h1 : c ds = some a) : fNotT c ds = some (!a) := by
  unfold fNotT
  rw [h1]; rfl
theorem orT_ok {c2 : SEnv → Option Bool} (h1 : c ds = some a) (h2 : a = false → c2 ds = some b) : fOrT c c2 ds = some (a || b) := by
  unfold fOrT
  rw [h1, Option.bind_some]
  cases a with
  | true => rfl
  | false => rw [if_neg Bool.false_ne_true, h2 rfl]; rfl
theorem call_ok {F : List PyData → Option PyData} {q : SEnv → Option (List PyData)} (h1 : q ds = some as) (hn : as.length = n) (h2 : F as = some d) : fCall n F q ds = some d := by
  unfold fCall
  rw [h1, Option.bind_some, if_pos hn, h2]
theorem cons_ok {q : SEnv → Option (List PyData)} (h1 : f ds = some d) (h2 : q ds = some as) : fCons f q ds = some (d :: as) := by
  unfold fCons
  rw [h1, Option.bind_some, h2]; rfl
theorem op_ok {k : PyData → PyData → Option PyData} {x y : PyData} (h1 : f ds = some x) (h2 : g ds = some y) (h3 : k x y = some d) : fOp k f g ds = some d := by
  unfold fOp
  rw [h1, Option.bind_some, h2, Option.bind_some, h3]
theorem cb_ok {k : List PyData → Option PyData} {q : SEnv → Option (List PyData)} (h1 : q ds = some as) (h2 : k as = some d) : fCB k q ds = some d := by
  unfold fCB
  rw [h1, Option.bind_some, h2]
theorem one_ok (h1 : f ds = some d) : fCons f fNil ds = some [d] := cons_ok h1 rfl
theorem ifret {d0 : PyData} (h1 : c ds = some b) (h2 : b = true → d0 = d) (h0 : f ds = some d0) (h3 : b = false → s ds = some (.rt d)) : sSeq (sIf c (sRet f) sSkip) s ds = some (.rt d) := by
  unfold sSeq sIf
  rw [h1, Option.bind_some]
  cases b with
  | true => rw [if_pos rfl]; unfold sRet; rw [h0, h2 rfl]; rfl
  | false => rw [if_neg Bool.false_ne_true]; exact h3 rfl
theorem seq_asg {gt : SEnv → PyData → Option SEnv} {r : Option Res} (h1 : f ds = some d) (h2 : gt ds d = some ds') (h3 : s ds' = r) : sSeq (sAsg f gt) s ds = r := by
  unfold sSeq sAsg
  rw [h1, Option.bind_some, h2]; exact h3
theorem ret_ok (h1 : f ds = some d) : sRet f ds = some (.rt d) := by
  unfold sRet
  rw [h1]; rfl
/-- [1 for x in xs if p(x)] == [] -/
theorem lc_ones {q : SEnv → Option (List PyData)} {gt : SEnv → PyData → Option SEnv} {p : SEnv → Option Bool} {vs : List Nat} {w : SEnv} {k : PyData → Bool} {xs : List PyData} (hq : q ds = some xs) (hl : xs.length ≤ 1000000) (hw : wipeD ds vs = w) (h : ∀ x ∈ xs, ∃ e, gt w x = some e ∧ p e = some (k x)) :
    fLc q gt p (fC (.int 1)) vs ds = some (.list ((xs.filter k).map fun _ => .int 1)) := by
  unfold fLc
  rw [hq, Option.bind_some, if_pos hl, hw, lc_map (f := fun _ x => x) (k := k) (g := fun _ => .int 1) fun x m => by
    obtain ⟨e, a, b⟩ := h x m
    exact ⟨e, a, b, fun _ => rfl⟩]
  rfl
theorem canLay_ints : ∀ ns : List Int, PyData.canLayAll0 (ns.map PyData.int) = true
  | [] => by simp [PyData.canLayAll0]
  | n :: ns => by simp [PyData.canLayAll0, PyData.canLay0, canLay_ints ns]
theorem depth_ints : ∀ ns : List Int, PyData.depthAll (ns.map PyData.int) ≤ 0
  | [] => by simp [PyData.depthAll]
  | n :: ns => by
    have ih := depth_ints ns
    simp [PyData.depthAll, PyData.depth] at ih ⊢
    omega
theorem shaped_lst (ns : List Int) : SeqAt.shaped (.list (ns.map PyData.int)) = true := by
  have d := depth_ints ns
  unfold SeqAt.shaped
  rw [Bool.and_eq_true]
  refine ⟨by rw [PyData.canLay0]; exact canLay_ints ns, decide_eq_true ?_⟩
  rw [PyData.depth]; omega
theorem shaped_tup (ns : List Int) : SeqAt.shaped (.tuple (ns.map PyData.int)) = true := by
  have d := depth_ints ns
  unfold SeqAt.shaped
  rw [Bool.and_eq_true]
  refine ⟨by rw [PyData.canLay0]; exact canLay_ints ns, decide_eq_true ?_⟩
  rw [PyData.depth]; omega
theorem shaped_ones (l : List PyData) : SeqAt.shaped (.list (l.map fun _ => .int 1)) = true := by
  have z := shaped_lst (l.map fun _ => 1)
  rwa [List.map_map] at z
theorem filt_none (k : PyData → Bool) : ∀ xs : List PyData, (xs.filter k).isEmpty = xs.all fun x => !k x
  | [] => rfl
  | x :: xs => by
    have ih := filt_none k xs
    rw [List.all_cons, ← ih]
    cases c : k x with
    | true => rw [List.filter_cons_of_pos c]; rfl
    | false => rw [List.filter_cons_of_neg (by simp [c])]; rfl
theorem all_any (k : PyData → Bool) : ∀ xs : List PyData, (!xs.all fun x => !k x) = xs.any k
  | [] => rfl
  | x :: xs => by
    rw [List.all_cons, List.any_cons, ← all_any k xs]
    cases k x <;> simp
/-- whether none of xs is such -/
theorem none_ok {q : SEnv → Option (List PyData)} {gt : SEnv → PyData → Option SEnv} {p : SEnv → Option Bool} {vs : List Nat} {w : SEnv} {k : PyData → Bool} {xs : List PyData} (hq : q ds = some xs) (hl : xs.length ≤ 1000000) (hw : wipeD ds vs = w) (h : ∀ x ∈ xs, ∃ e, gt w x = some e ∧ p e = some (k x)) :
    fOp gEqD (fLc q gt p (fC (.int 1)) vs) (fLst fNil) ds = some (.bool (xs.all fun x => !k x)) := by
  refine op_ok (lc_ones hq hl hw h) (show fLst fNil ds = some (.list []) from rfl) ?_
  unfold gEqD
  rw [if_pos ⟨shaped_ones _, shaped_ones []⟩]
  have e := filt_none k xs
  rw [show PyData.eqv (.list ((xs.filter k).map fun _ => .int 1)) (.list []) = (xs.filter k).isEmpty from by
    generalize xs.filter k = l
    cases l <;> simp [PyData.eqv, PyData.eqvAll], e]
theorem some_ok {q : SEnv → Option (List PyData)} {gt : SEnv → PyData → Option SEnv} {p : SEnv → Option Bool} {vs : List Nat} {w : SEnv} {k : PyData → Bool} {xs : List PyData} (hq : q ds = some xs) (hl : xs.length ≤ 1000000) (hw : wipeD ds vs = w) (h : ∀ x ∈ xs, ∃ e, gt w x = some e ∧ p e = some (k x)) :
    fTest (fOp gNeD (fLc q gt p (fC (.int 1)) vs) (fLst fNil)) ds = some (xs.any k) := by
  have z := none_ok hq hl hw h
  refine test_ok (op_ok (lc_ones hq hl hw h) (show fLst fNil ds = some (.list []) from rfl) ?_)
  unfold fOp at z
  rw [lc_ones hq hl hw h, Option.bind_some, show fLst fNil ds = some (.list []) from rfl, Option.bind_some] at z
  unfold gEqD at z
  rw [if_pos ⟨shaped_ones _, shaped_ones []⟩] at z
  unfold gNeD
  rw [if_pos ⟨shaped_ones _, shaped_ones []⟩]
  have e := congrArg (fun o => match o with | some (PyData.bool b) => b | _ => false) z
  dsimp only at e
  rw [e, all_any]
end
theorem nums_ok (d : PyData) (h : short d) : Ans (F_has_numbers [d]) (nums? d).isSome := by
  unfold F_has_numbers
  cases d with
  | tuple es =>
    have z := hall_lc (q := wkT (fVar 0)) (gt := tgName 1) (ff := fCall 1 F_is_number (fCons (fVar 1) fNil)) (ds := [some (.tuple es), none]) (vs := [1]) (w := [some (.tuple es), none]) (f := isN) (xs := es) rfl (by have : es.length ≤ 1000 := h; omega) rfl fun x m => ⟨[some (.tuple es), some x], rfl, by simpa [defF, startD, sRet, sSeq, sIf, sSkip, sAsg, fVar, fC, fNil, fCons, fTup, fLst, fOp, fCall, fCB, fIs, fTest, fNotT, fAndT, fOrT, fAnd, fOr, fNot, fIfE, fChain, asB, gI, gAdd, Ph.gSub, gLt, gLe, gGt, gGe, gEqI, gNeI, hLen, Ph.isInt, Ph.isBool, Ph.isTuple, tgName, tgTwo, tgFour] using num_ok x⟩
    simp [z, nums?, intsOf_all, defF, startD, sRet, sSeq, sIf, sSkip, sAsg, fVar, fC, fNil, fCons, fTup, fLst, fOp, fCall, fCB, fIs, fTest, fNotT, fAndT, fOrT, fAnd, fOr, fNot, fIfE, fChain, asB, gI, gAdd, Ph.gSub, gLt, gLe, gGt, gGe, gEqI, gNeI, hLen, Ph.isInt, Ph.isBool, Ph.isTuple, tgName, tgTwo, tgFour]
    simp [fCB, fCons, defF, startD, sRet, sSeq, sIf, sSkip, sAsg, fVar, fC, fNil, fCons, fTup, fLst, fOp, fCall, fCB, fIs, fTest, fNotT, fAndT, fOrT, fAnd, fOr, fNot, fIfE, fChain, asB, gI, gAdd, Ph.gSub, gLt, gLe, gGt, gGe, gEqI, gNeI, hLen, Ph.isInt, Ph.isBool, Ph.isTuple, tgName, tgTwo, tgFour] at z
    rw [z]; rfl
  | _ => simp [nums?, defF, startD, sRet, sSeq, sIf, sSkip, sAsg, fVar, fC, fNil, fCons, fTup, fLst, fOp, fCall, fCB, fIs, fTest, fNotT, fAndT, fOrT, fAnd, fOr, fNot, fIfE, fChain, asB, gI, gAdd, Ph.gSub, gLt, gLe, gGt, gGe, gEqI, gNeI, hLen, Ph.isInt, Ph.isBool, Ph.isTuple, tgName, tgTwo, tgFour]
end K13
namespace K13
open PySem Ph
abbrev hT (hs : List Int) : PyData := .tuple (hs.map PyData.int)
theorem hT_len (hs : List Int) (ds : SEnv) (i : Nat) (h : fVar i ds = some (hT hs)) : fCB hLen (fCons (fVar i) fNil) ds = some (.int hs.length) :=
  cb_ok (one_ok h) (by show some (PyData.int (hs.map PyData.int).length) = _; rw [List.length_map])
theorem at_hue (hs : List Int) {i : Int} (h0 : 0 ≤ i) (h1 : i < hs.length) : gIxT (hT hs) (.int i) = some (.int (hs.getD i.toNat 0)) := by
  show L2.atI (hs.map PyData.int) i = _
  unfold L2.atI L2.ixN
  have h1' : i < ((hs.map PyData.int).length : Nat) := by rw [List.length_map]; exact h1
  rw [if_pos h0, if_pos h1']
  show (hs.map PyData.int)[i.toNat]? = _
  rw [List.getElem?_map, List.getElem?_eq_getElem (by omega), List.getD_eq_getElem?_getD, List.getElem?_eq_getElem (by omega)]
  rfl
def hueOf (hs : List Int) (l : Int) (d : PyData) : Bool := match d with
  | .int i => decide (0 ≤ i) && decide (i < hs.length) && decide (hs.getD i.toNat 0 = l)
  | _ => false
theorem chain_ok (d : PyData) (i : Int) (e : d = .int i) (n : Int) (ds : SEnv) (f g : SEnv → Option PyData) (h1 : f ds = some d) (h2 : g ds = some (.int n)) : fChain gLe gLt (fC (.int 0)) f g ds = some (.bool (decide (0 ≤ i) && decide (i < n))) := by
  subst e
  unfold fChain fC
  rw [Option.bind_some, h1, Option.bind_some]
  show ((gLe (.int 0) (.int i)).bind asB).bind _ = _
  rw [show (gLe (.int 0) (.int i)).bind asB = some (decide (0 ≤ i)) from rfl, Option.bind_some]
  by_cases c : 0 ≤ i
  · rw [decide_eq_true c, if_pos rfl, h2]; rfl
  · rw [decide_eq_false c]; rfl
theorem hue_ok (d : PyData) (hs : List Int) (l : Int) : Ans (F__is_hue_of [d, hT hs, .int l]) (hueOf hs l d) := by
  unfold F__is_hue_of
  have key : ∀ b, b = hueOf hs l d → (fAnd (fCall 1 F_is_number (fCons (fVar 0) fNil)) (fAnd (fChain gLe gLt (fC (.int 0)) (fVar 0) (fCB hLen (fCons (fVar 1) fNil))) (fOp gEqI (fOp gIxT (fVar 1) (fVar 0)) (fVar 2)))) (startD N__is_hue_of [d, hT hs, .int l]) = some (.bool b) := by
    rintro b rfl
    have nk := call_ok (ds := startD N__is_hue_of [d, hT hs, .int l]) (n := 1) (F := F_is_number) (one_ok (f := fVar 0) rfl) rfl (num_ok d)
    cases cn : isN d with
    | false =>
      rw [cn] at nk
      rw [and_ok (b := false) nk fun c => by cases c]
      cases d <;> first | rfl | cases cn
    | true =>
      rw [cn] at nk
      cases d with
      | int i =>
        have z := and_ok nk fun _ => and_ok (chain_ok (.int i) i rfl hs.length _ (fVar 0) _ rfl (hT_len hs _ 1 rfl)) (g := fOp gEqI (fOp gIxT (fVar 1) (fVar 0)) (fVar 2)) (b := decide (hs.getD i.toNat 0 = l)) fun c => by
          rw [Bool.and_eq_true] at c
          exact op_ok (op_ok (f := fVar 1) (g := fVar 0) rfl rfl (at_hue hs (of_decide_eq_true c.1) (of_decide_eq_true c.2))) rfl rfl
        rw [z]
        simp [hueOf]
      | _ => cases cn
  exact def_ret (key _ rfl)
theorem from_ok (d : PyData) (lo : Int) (h : short d) : Ans (F_has_numbers_from [d, .int lo]) (match nums? d with | some ns => ns.all fun n => decide (lo ≤ n) | none => false) := by
  unfold F_has_numbers_from
  refine def_ret (?_ : fAnd _ _ _ = _)
  have h1 := call_ok (ds := startD N_has_numbers_from [d, .int lo]) (n := 1) (F := F_has_numbers) (one_ok (f := fVar 0) rfl) rfl (nums_ok d h)
  cases c : nums? d with
  | none => rw [c] at h1; exact and_ok (b := false) h1 fun c => by cases c
  | some ns =>
    rw [c] at h1
    have e := nums_eq c
    subst e
    have hl : (ns.map PyData.int).length ≤ 1000000 := by have : (ns.map PyData.int).length ≤ 1000 := h; omega
    have z := hall_lc (q := wkT (fVar 0)) (gt := tgName 2) (ff := fOp gGe (fVar 2) (fVar 1)) (ds := [some (hT ns), some (.int lo), none]) (vs := [2]) (w := [some (hT ns), some (.int lo), none]) (f := fun x => match x with | .int n => decide (lo ≤ n) | _ => false) (xs := ns.map PyData.int) rfl hl rfl fun x m => by
      obtain ⟨n, _, rfl⟩ := List.mem_map.mp m
      exact ⟨_, rfl, rfl⟩
    have r := and_ok h1 (g := fCB hAll (fCons (fLc (wkT (fVar 0)) (tgName 2) fYes (fOp gGe (fVar 2) (fVar 1)) [2]) fNil)) fun _ => z
    rw [r, List.all_map]; rfl
theorem between_ok (d : PyData) (lo hi : Int) (h : short d) : Ans (F_has_numbers_between [d, .int lo, .int hi]) (match nums? d with | some ns => ns.all fun n => decide (lo ≤ n) && decide (n ≤ hi) | none => false) := by
  unfold F_has_numbers_between
  refine def_ret (?_ : fAnd _ _ _ = _)
  have h1 := call_ok (ds := startD N_has_numbers_between [d, .int lo, .int hi]) (n := 2) (F := F_has_numbers_from) (cons_ok (f := fVar 0) rfl (one_ok (f := fVar 1) rfl)) rfl (from_ok d lo h)
  cases c : nums? d with
  | none => rw [c] at h1; exact and_ok (b := false) h1 fun c => by cases c
  | some ns =>
    rw [c] at h1
    have e := nums_eq c
    subst e
    have hl : (ns.map PyData.int).length ≤ 1000000 := by have : (ns.map PyData.int).length ≤ 1000 := h; omega
    have z := hall_lc (q := wkT (fVar 0)) (gt := tgName 3) (ff := fOp gLe (fVar 3) (fVar 2)) (ds := [some (hT ns), some (.int lo), some (.int hi), none]) (vs := [3]) (w := [some (hT ns), some (.int lo), some (.int hi), none]) (f := fun x => match x with | .int n => decide (n ≤ hi) | _ => false) (xs := ns.map PyData.int) rfl hl rfl fun x m => by
      obtain ⟨n, _, rfl⟩ := List.mem_map.mp m
      exact ⟨_, rfl, rfl⟩
    have r := and_ok h1 (g := fCB hAll (fCons (fLc (wkT (fVar 0)) (tgName 3) fYes (fOp gLe (fVar 3) (fVar 2)) [3]) fNil)) fun _ => z
    rw [r, List.all_map]
    congr 2
    show ((ns.all fun n => decide (lo ≤ n)) && ns.all fun n => decide (n ≤ hi)) = ns.all fun n => decide (lo ≤ n) && decide (n ≤ hi)
    clear r z h1 c h hl
    induction ns with
    | nil => rfl
    | cons n ns ih => simp only [List.all_cons, ← ih]; cases decide (lo ≤ n) <;> cases decide (n ≤ hi) <;> simp [Bool.and_comm, Bool.and_assoc, Bool.and_left_comm]
def mapOk (hs : List Int) (d : PyData) : Bool := match nums? d with
  | some ms => (ms.all fun m => decide (0 ≤ m) && decide (m < hs.length)) && decide (ms.map (fun m => hs.getD m.toNat 0) = hs)
  | none => false
theorem map_ok (d : PyData) (hs : List Int) (h : short d) : Ans (F__is_map [d, hT hs]) (mapOk hs d) := by
  unfold F__is_map
  refine def_ret (?_ : fAnd _ _ _ = _)
  have ln : (fOp gSub (fCB hLen (fCons (fVar 1) fNil)) (fC (.int 1))) (startD N__is_map [d, hT hs]) = some (.int ((hs.length : Int) - 1)) := op_ok (hT_len hs _ 1 rfl) rfl rfl
  have h1 := call_ok (ds := startD N__is_map [d, hT hs]) (n := 3) (F := F_has_numbers_between) (cons_ok (f := fVar 0) rfl (cons_ok (f := fC (.int 0)) rfl (one_ok ln))) rfl (between_ok d 0 ((hs.length : Int) - 1) h)
  cases c : nums? d with
  | none => rw [c] at h1; unfold mapOk; rw [c]; exact and_ok (b := false) h1 fun c => by cases c
  | some ms =>
    rw [c] at h1
    have e := nums_eq c
    subst e
    have hl : (ms.map PyData.int).length ≤ 1000000 := by have : (ms.map PyData.int).length ≤ 1000 := h; omega
    have r := and_ok h1 (g := fOp gEqD (fCB hTup (fCons (fLc (wkT (fVar 0)) (tgName 2) fYes (fOp gIxT (fVar 1) (fVar 2)) [2]) fNil)) (fVar 1)) (b := decide (ms.map (fun m => hs.getD m.toNat 0) = hs)) fun cc => by
      have inr : ∀ m ∈ ms, 0 ≤ m ∧ m < hs.length := fun m mm => by
        have z := List.all_eq_true.mp cc m mm
        rw [Bool.and_eq_true] at z
        have a := of_decide_eq_true z.1
        have b := of_decide_eq_true z.2
        exact ⟨a, by omega⟩
      have z := lc_tup (gt := tgName 2) (ff := fOp gIxT (fVar 1) (fVar 2)) (w := [some (hT ms), some (hT hs), none]) (g := fun x => match x with | .int m => .int (hs.getD m.toNat 0) | _ => .none) (xs := ms.map PyData.int) fun x m => by
        obtain ⟨n, mn, rfl⟩ := List.mem_map.mp m
        exact ⟨_, rfl, op_ok (f := fVar 1) (g := fVar 2) rfl rfl (at_hue hs (inr n mn).1 (inr n mn).2)⟩
      have z2 : fLc (wkT (fVar 0)) (tgName 2) fYes (fOp gIxT (fVar 1) (fVar 2)) [2] (startD N__is_map [hT ms, hT hs]) = some (.list ((ms.map fun m => hs.getD m.toNat 0).map PyData.int)) := by
        unfold fLc
        rw [show wkT (fVar 0) (startD N__is_map [hT ms, hT hs]) = some (ms.map PyData.int) from rfl, Option.bind_some, if_pos hl]
        rw [show wipeD (startD N__is_map [hT ms, hT hs]) [2] = [some (hT ms), some (hT hs), none] from rfl, z]
        show some (PyData.list _) = _
        rw [List.map_map, List.map_map]; rfl
      refine op_ok (cb_ok (one_ok z2) rfl) (show fVar 1 _ = some (hT hs) from rfl) ?_
      unfold gEqD
      rw [if_pos ⟨shaped_tup _, shaped_tup _⟩]
      have q : PyData.eqv (.tuple ((ms.map fun m => hs.getD m.toNat 0).map PyData.int)) (hT hs) = decide (ms.map (fun m => hs.getD m.toNat 0) = hs) := by
        have z := eqvAll_ints (ms.map fun m => hs.getD m.toNat 0) hs
        rw [← z]
        simp [PyData.eqv]
      rw [q]
    rw [r]
    unfold mapOk
    rw [nums_tup]
    have fe : (fun n : Int => decide (0 ≤ n) && decide (n ≤ (hs.length : Int) - 1)) = fun m => decide (0 ≤ m) && decide (m < (hs.length : Int)) := by
      funext n
      congr 1
      exact decide_eq_decide.mpr (by omega)
    dsimp only
    rw [fe]
end K13
namespace K13
open PySem Ph
theorem ix_lit {es : List PyData} {d : PyData} (k : Nat) (h : es[k]? = some d) : gIxT (.tuple es) (.int (k : Nat)) = some d := by
  show L2.atI es ((k : Nat) : Int) = _
  unfold L2.atI L2.ixN
  have hl : k < es.length := (List.getElem?_eq_some_iff.mp h).1
  rw [if_pos (Int.natCast_nonneg k), if_pos (by omega)]
  exact h
theorem tupOf_len {d : PyData} {n : Nat} (h : tupOf d n = true) : ∃ es, d = .tuple es ∧ es.length = n := by
  cases d with
  | tuple es => exact ⟨es, rfl, by have := of_decide_eq_true h; omega⟩
  | _ => cases h
theorem zip_hues (hs ms : List Int) : zipD (ms.map PyData.int) (hs.map PyData.int) = (ms.zip hs).map fun p => .tuple [.int p.1, .int p.2] := by
  unfold zipD
  rw [List.zip_map, List.map_map]
  rfl
theorem map_eq_zip (f : Int → Int) : ∀ (ms hs : List Int), ms.length = hs.length → ((ms.zip hs).all fun p => decide (f p.1 = p.2)) = decide (ms.map f = hs)
  | [], [], _ => rfl
  | m :: ms, h :: hs, e => by
    rw [List.zip_cons_cons, List.all_cons, map_eq_zip f ms hs (by simpa using e)]
    by_cases c : f m = h <;> simp [c]
  | [], _ :: _, e => by simp at e
  | _ :: _, [], e => by simp at e
theorem lmap_ok (d : PyData) (hs : List Int) (h : short d) (hh : hs.length ≤ 1000) : Ans (F__law_is_map [hT hs, d]) (mapOk hs d) := by
  unfold F__law_is_map
  refine def_s (?_ : sSeq _ _ _ = _)
  have h1 := call_ok (ds := startD N__law_is_map [hT hs, d]) (n := 2) (F := F__law_is_line) (cons_ok (f := fVar 1) rfl (one_ok (hT_len hs _ 0 rfl))) rfl (lline_ok d hs.length)
  cases ct : tupOf d hs.length with
  | false =>
    rw [ct] at h1
    have e : mapOk hs d = false := by
      unfold mapOk
      cases c : nums? d with
      | none => rfl
      | some ms =>
        have e := nums_eq c
        subst e
        have ne : ¬ ms.length = hs.length := fun z => by
          have ct : decide (((ms.map PyData.int).length : Int) = (hs.length : Int)) = false := ct
          rw [List.length_map, z] at ct
          simp at ct
        have : decide (ms.map (fun m => hs.getD m.toNat 0) = hs) = false := decide_eq_false fun z => ne (by have := congrArg List.length z; simpa using this)
        dsimp only
        rw [this, Bool.and_false]
    rw [e]
    exact ifret (b := true) (orT_ok (b := false) (notT_ok (test_ok h1)) fun c => by cases c) (fun _ => rfl) rfl fun c => by cases c
  | true =>
    obtain ⟨es, rfl, hl⟩ := tupOf_len ct
    rw [ct] at h1
    have hl2 : es.length ≤ 1000000 := by omega
    have sn := some_ok (ds := startD N__law_is_map [hT hs, .tuple es]) (q := wkT (fVar 1)) (gt := tgName 2) (p := fNotT (fTest (fCall 2 F__law_is_number (fCons (fVar 2) (fCons (fCB hLen (fCons (fVar 0) fNil)) fNil))))) (vs := [2]) (w := [some (hT hs), some (.tuple es), none, none]) (k := fun x => !inR x hs.length) (xs := es) rfl hl2 rfl fun x m => ⟨[some (hT hs), some (.tuple es), some x, none], rfl, notT_ok (test_ok (call_ok (n := 2) (F := F__law_is_number) (cons_ok (f := fVar 2) rfl (one_ok (hT_len hs _ 0 rfl))) rfl (lnum_ok x hs.length)))⟩
    have o := orT_ok (notT_ok (test_ok h1)) (b := es.any fun x => !inR x hs.length) fun _ => sn
    have inN : ∀ x, inR x hs.length = true → isN x = true := fun x c => by cases x <;> first | rfl | cases c
    cases ca : es.any fun x => !inR x hs.length with
    | true =>
      rw [ca] at o
      have e : mapOk hs (.tuple es) = false := by
        unfold mapOk
        cases c : nums? (.tuple es) with
        | none => rfl
        | some ms =>
          have e := nums_eq c
          cases e
          rw [List.any_map] at ca
          have : (ms.all fun m => decide (0 ≤ m) && decide (m < (hs.length : Int))) = false := by
            rw [List.any_eq_true] at ca
            obtain ⟨m, mm, cm⟩ := ca
            rw [List.all_eq_false]
            refine ⟨m, mm, ?_⟩
            have cm : (!inR (.int m) hs.length) = true := cm
            simp [inR] at cm ⊢
            omega
          simp [this]
      rw [e]
      exact ifret (b := true) o (fun _ => rfl) rfl fun c => by cases c
    | false =>
      rw [ca] at o
      have all : ∀ x ∈ es, inR x hs.length = true := fun x m => by
        have z := List.any_eq_false.mp ca x m
        simpa using z
      obtain ⟨ms, hms⟩ : ∃ ms, intsOf es = some ms := by
        have z : (intsOf es).isSome = true := by
          rw [intsOf_all]
          exact List.all_eq_true.mpr fun x m => inN x (all x m)
        exact Option.isSome_iff_exists.mp z
      have e := intsOf_eq hms
      subst e
      have inr : ∀ m ∈ ms, 0 ≤ m ∧ m < hs.length := fun m mm => by
        have z := all (.int m) (List.mem_map.mpr ⟨m, mm, rfl⟩)
        simp [inR] at z
        exact z
      refine ifret (b := false) o (fun c => by cases c) rfl fun _ => ret_ok ?_
      have z := none_ok (ds := startD N__law_is_map [hT hs, hT ms]) (q := wkZT (fVar 1) (fVar 0)) (gt := tgTwo 2 3) (p := fTest (fOp gNeI (fOp gIxT (fVar 0) (fVar 2)) (fVar 3))) (vs := [2, 3]) (w := [some (hT hs), some (hT ms), none, none]) (k := fun x => match x with | .tuple [.int a, .int b] => !decide (hs.getD a.toNat 0 = b) | _ => false) (xs := zipD (ms.map PyData.int) (hs.map PyData.int)) rfl (by rw [zipD_len, List.length_map]; have := Nat.min_le_left ms.length (hs.map PyData.int).length; rw [List.length_map] at hl2; omega) rfl fun x m => by
        rw [zip_hues] at m
        obtain ⟨⟨a, b⟩, pm, rfl⟩ := List.mem_map.mp m
        have am := (List.of_mem_zip pm).1
        exact ⟨[some (hT hs), some (hT ms), some (.int a), some (.int b)], rfl, test_ok (op_ok (op_ok (f := fVar 0) (g := fVar 2) rfl rfl (at_hue hs (inr a am).1 (inr a am).2)) (g := fVar 3) rfl rfl)⟩
      rw [z]
      unfold mapOk
      rw [nums_tup, zip_hues, List.all_map]
      have e1 : (ms.all fun m => decide (0 ≤ m) && decide (m < (hs.length : Int))) = true := List.all_eq_true.mpr fun m mm => by simp [inr m mm]
      dsimp only
      rw [e1, Bool.true_and, ← map_eq_zip _ ms hs (by simpa using hl)]
      congr 2
      congr 1
      funext p
      simp
def rowOk (many : Int) (hs : List Int) (l : Int) (d : PyData) : Bool := match d with
  | .tuple [f, o, a, b] => inR f many && hueOf hs l o && (mapOk hs a && mapOk hs b)
  | _ => false
/-- no list within is too long -/
def shorts : Nat → PyData → Prop
  | 0, d => short d
  | n + 1, d => short d ∧ match d with
    | .tuple es => ∀ e ∈ es, shorts n e
    | _ => True
theorem shorts_short : ∀ {n : Nat} {d : PyData}, shorts n d → short d
  | 0, _, h => h
  | _ + 1, _, h => h.1
theorem len4 {es : List PyData} (h : es.length = 4) : ∃ a b c d, es = [a, b, c, d] := match es, h with
  | [a, b, c, d], _ => ⟨a, b, c, d, rfl⟩
theorem rowOk_not {many : Int} {hs : List Int} {l : Int} {d : PyData} (h : tupOf d 4 = false) : rowOk many hs l d = false := by
  unfold rowOk
  split
  · cases h
  · rfl
theorem row_ok (d : PyData) (l many : Int) (hs : List Int) (h : shorts 1 d) : Ans (F__is_row [d, .int l, .int many, hT hs]) (rowOk many hs l d) := by
  unfold F__is_row
  refine def_s (?_ : sSeq _ _ _ = _)
  have h1 := call_ok (ds := startD N__is_row [d, .int l, .int many, hT hs]) (n := 2) (F := F_is_tuple_of) (cons_ok (f := fVar 0) rfl (one_ok (f := fC (.int 4)) rfl)) rfl (tof_ok d 4)
  cases ct : tupOf d 4 with
  | false =>
    rw [ct] at h1
    rw [rowOk_not ct]
    exact ifret (b := true) (notT_ok (test_ok h1)) (fun _ => rfl) rfl fun c => by cases c
  | true =>
    rw [ct] at h1
    obtain ⟨es, rfl, hl⟩ := tupOf_len (n := 4) ct
    obtain ⟨f, o, a, b, rfl⟩ := len4 hl
    have sa := h.2 a (by simp)
    have sb := h.2 b (by simp)
    refine ifret (b := false) (notT_ok (test_ok h1)) (fun c => by cases c) rfl fun _ => ?_
    refine seq_asg (f := fVar 0) rfl rfl ?_
    have q1 := test_ok (call_ok (ds := [some (.tuple [f, o, a, b]), some (.int l), some (.int many), some (hT hs), some f, some o, some a, some b]) (n := 2) (F := F__is_flag) (cons_ok (f := fVar 4) rfl (one_ok (f := fVar 2) rfl)) rfl (flag_ok f many))
    have q2 := test_ok (call_ok (ds := [some (.tuple [f, o, a, b]), some (.int l), some (.int many), some (hT hs), some f, some o, some a, some b]) (n := 3) (F := F__is_hue_of) (cons_ok (f := fVar 5) rfl (cons_ok (f := fVar 3) rfl (one_ok (f := fVar 1) rfl))) rfl (hue_ok o hs l))
    have oo := orT_ok (notT_ok q1) fun _ => notT_ok q2
    show sSeq _ _ [some (.tuple [f, o, a, b]), some (.int l), some (.int many), some (hT hs), some f, some o, some a, some b] = _
    cases c1 : inR f many with
    | false => rw [c1] at oo; exact ifret (b := true) oo (fun _ => by simp [rowOk, c1]) rfl fun c => by cases c
    | true =>
      cases c2 : hueOf hs l o with
      | false => rw [c1, c2] at oo; exact ifret (b := true) oo (fun _ => by simp [rowOk, c1, c2]) rfl fun c => by cases c
      | true =>
        rw [c1, c2] at oo
        refine ifret (b := false) oo (fun c => by cases c) rfl fun _ => ret_ok ?_
        rw [and_ok (call_ok (n := 2) (F := F__is_map) (cons_ok (f := fVar 6) rfl (one_ok (f := fVar 3) rfl)) rfl (map_ok a hs sa)) fun _ => call_ok (n := 2) (F := F__is_map) (cons_ok (f := fVar 7) rfl (one_ok (f := fVar 3) rfl)) rfl (map_ok b hs sb)]
        simp [rowOk, c1, c2]
theorem lrow_ok (d : PyData) (l many : Int) (hs : List Int) (hh : hs.length ≤ 1000) (h : shorts 1 d) : Ans (F__law_is_row [.int many, hT hs, .int l, d]) (rowOk many hs l d) := by
  unfold F__law_is_row
  refine def_s (?_ : sSeq _ _ _ = _)
  have h1 := call_ok (ds := startD N__law_is_row [.int many, hT hs, .int l, d]) (n := 2) (F := F__law_is_line) (cons_ok (f := fVar 3) rfl (one_ok (f := fC (.int 4)) rfl)) rfl (lline_ok d 4)
  cases ct : tupOf d 4 with
  | false =>
    rw [ct] at h1
    rw [rowOk_not ct]
    exact ifret (b := true) (orT_ok (b := false) (notT_ok (test_ok h1)) fun c => by cases c) (fun _ => rfl) rfl fun c => by cases c
  | true =>
    rw [ct] at h1
    obtain ⟨es, rfl, hl⟩ := tupOf_len (n := 4) ct
    obtain ⟨f, o, a, b, rfl⟩ := len4 hl
    have sa := h.2 a (by simp)
    have sb := h.2 b (by simp)
    have v3 : fVar 3 (startD N__law_is_row [.int many, hT hs, .int l, .tuple [f, o, a, b]]) = some (.tuple [f, o, a, b]) := rfl
    have i0 := op_ok v3 (show fC (.int 0) _ = some (.int 0) from rfl) (ix_lit 0 (es := [f, o, a, b]) rfl)
    have i1 := op_ok v3 (show fC (.int 1) _ = some (.int 1) from rfl) (ix_lit 1 (es := [f, o, a, b]) rfl)
    have i2 := op_ok v3 (show fC (.int 2) _ = some (.int 2) from rfl) (ix_lit 2 (es := [f, o, a, b]) rfl)
    have i3 := op_ok v3 (show fC (.int 3) _ = some (.int 3) from rfl) (ix_lit 3 (es := [f, o, a, b]) rfl)
    have q1 := test_ok (call_ok (n := 2) (F := F__law_is_number) (cons_ok i0 (one_ok (f := fVar 0) rfl)) rfl (lnum_ok f many))
    have q2 := test_ok (call_ok (n := 2) (F := F__law_is_number) (cons_ok i1 (one_ok (hT_len hs _ 1 rfl))) rfl (lnum_ok o hs.length))
    have oo := orT_ok (notT_ok (test_ok h1)) fun _ => orT_ok (notT_ok q1) fun _ => notT_ok q2
    cases c1 : inR f many with
    | false => rw [c1] at oo; exact ifret (b := true) oo (fun _ => by simp [rowOk, c1]) rfl fun c => by cases c
    | true =>
      cases c2 : inR o hs.length with
      | false =>
        rw [c1, c2] at oo
        refine ifret (b := true) oo (fun _ => ?_) rfl fun c => by cases c
        have e : hueOf hs l o = false := by
          cases o with
          | int i => have c2 : (decide (0 ≤ i) && decide (i < (hs.length : Int))) = false := c2; show (decide (0 ≤ i) && decide (i < (hs.length : Int)) && decide (hs.getD i.toNat 0 = l)) = false; rw [c2]; rfl
          | _ => rfl
        simp [rowOk, e]
      | true =>
        rw [c1, c2] at oo
        refine ifret (b := false) oo (fun c => by cases c) rfl fun _ => ret_ok ?_
        cases o with
        | int i =>
          have c2' : (decide (0 ≤ i) && decide (i < (hs.length : Int))) = true := c2
          rw [Bool.and_eq_true] at c2'
          have z := op_ok (op_ok (f := fVar 1) (g := fOp gIxT (fVar 3) (fC (.int 1))) (show fVar 1 _ = some (hT hs) from rfl) i1 (at_hue hs (of_decide_eq_true c2'.1) (of_decide_eq_true c2'.2))) (g := fVar 2) (show fVar 2 _ = some (.int l) from rfl) (show gEqI _ _ = some (.bool (decide (hs.getD i.toNat 0 = l))) from rfl)
          rw [and_ok z fun _ => and_ok (call_ok (n := 2) (F := F__law_is_map) (cons_ok (f := fVar 1) rfl (one_ok i2)) rfl (lmap_ok a hs sa hh)) fun _ => call_ok (n := 2) (F := F__law_is_map) (cons_ok (f := fVar 1) rfl (one_ok i3)) rfl (lmap_ok b hs sb hh)]
          simp [rowOk, c1, hueOf, c2'.1, c2'.2]
        | _ => cases c2
end K13
namespace K13
open PySem Ph
def pRow (many : Int) (hs : List Int) (p : PyData) : Bool := match p with
  | .tuple [.int k, r] => rowOk many hs k r
  | _ => false
def lineOk (many : Int) (hs : List Int) (w : Int) (d : PyData) : Bool := match d with
  | .tuple rs => decide ((rs.length : Int) = w) && (enumD rs).all (pRow many hs)
  | _ => false
theorem max_ok (hs : List Int) (hne : hs ≠ []) {ds : SEnv} {i : Nat} (h : fVar i ds = some (hT hs)) : fCB hMaxT (fCons (fVar i) fNil) ds = some (.int (maxI hs)) := by
  refine cb_ok (one_ok h) ?_
  show (intsOf (hs.map PyData.int)).bind _ = _
  rw [intsOf_map, Option.bind_some, if_pos (List.length_pos_iff.mpr hne)]
theorem enum_mem {es : List PyData} {p : PyData} (h : p ∈ enumD es) : ∃ (k : Nat) (e : PyData), es[k]? = some e ∧ p = .tuple [.int (k : Nat), e] := by
  unfold enumD at h
  obtain ⟨k, hk, e⟩ := List.getElem_of_mem h
  rw [List.length_mapIdx] at hk
  rw [List.getElem_mapIdx] at e
  exact ⟨k, es[k], List.getElem?_eq_getElem hk, e.symm⟩
theorem enum_len (es : List PyData) : (enumD es).length = es.length := by
  unfold enumD
  rw [List.length_mapIdx]
theorem line_ok (d : PyData) (many : Int) (hs : List Int) (hne : hs ≠ []) (h : shorts 2 d) : Ans (F__is_line [d, .int many, hT hs]) (lineOk many hs (maxI hs + 1) d) := by
  unfold F__is_line
  refine def_s (?_ : sSeq _ _ _ = _)
  have mx : fOp gAdd (fCB hMaxT (fCons (fVar 2) fNil)) (fC (.int 1)) (startD N__is_line [d, .int many, hT hs]) = some (.int (maxI hs + 1)) := op_ok (max_ok hs hne rfl) rfl rfl
  have h1 := call_ok (ds := startD N__is_line [d, .int many, hT hs]) (n := 2) (F := F_is_tuple_of) (cons_ok (f := fVar 0) rfl (one_ok mx)) rfl (tof_ok d (maxI hs + 1))
  cases ct : tupOf d (maxI hs + 1) with
  | false =>
    rw [ct] at h1
    have e : lineOk many hs (maxI hs + 1) d = false := by
      cases d with
      | tuple rs => have ct : decide ((rs.length : Int) = maxI hs + 1) = false := ct; show (decide ((rs.length : Int) = maxI hs + 1) && _) = false; rw [ct]; rfl
      | _ => rfl
    rw [e]
    exact ifret (b := true) (notT_ok (test_ok h1)) (fun _ => rfl) rfl fun c => by cases c
  | true =>
    rw [ct] at h1
    cases d with
    | tuple rs =>
      refine ifret (b := false) (notT_ok (test_ok h1)) (fun c => by cases c) rfl fun _ => ret_ok ?_
      have hl : (enumD rs).length ≤ 1000000 := by rw [enum_len]; have : rs.length ≤ 1000 := h.1; omega
      have z := hall_lc (q := wkET (fVar 0)) (gt := tgTwo 3 4) (ff := fCall 4 F__is_row (fCons (fVar 4) (fCons (fVar 3) (fCons (fVar 1) (fCons (fVar 2) fNil))))) (ds := startD N__is_line [.tuple rs, .int many, hT hs]) (vs := [3, 4]) (w := [some (.tuple rs), some (.int many), some (hT hs), none, none]) (f := pRow many hs) (xs := enumD rs) rfl hl rfl fun p m => by
        obtain ⟨k, e, he, rfl⟩ := enum_mem m
        have se := h.2 e (List.mem_of_getElem? he)
        exact ⟨[some (.tuple rs), some (.int many), some (hT hs), some (.int (k : Nat)), some e], rfl, call_ok (n := 4) (F := F__is_row) (cons_ok (f := fVar 4) rfl (cons_ok (f := fVar 3) rfl (cons_ok (f := fVar 1) rfl (one_ok (f := fVar 2) rfl)))) rfl (row_ok e k many hs se)⟩
      rw [z]
      have ct : decide ((rs.length : Int) = maxI hs + 1) = true := ct
      show _ = some (PyData.bool (decide ((rs.length : Int) = maxI hs + 1) && _))
      rw [ct]; rfl
    | _ => cases ct
theorem lc2_all {gt gt1 : SEnv → PyData → Option SEnv} {q1 : SEnv → Option (List PyData)} {ff : SEnv → Option PyData} {vs1 : List Nat} {w : SEnv} {sub : PyData → List PyData} {g : PyData → PyData} : ∀ {xs : List PyData}, (∀ x ∈ xs, ∃ e, gt w x = some e ∧ q1 e = some (sub x) ∧ ∀ y ∈ sub x, ∃ e2, gt1 (wipeD e vs1) y = some e2 ∧ ff e2 = some (g y)) →
    lcGo2 gt q1 gt1 ff vs1 w xs = some ((xs.flatMap sub).map g)
  | [], _ => rfl
  | x :: xs, h => by
    obtain ⟨e, h1, h2, h4⟩ := h x List.mem_cons_self
    have ih := lc2_all (g := g) (sub := sub) (xs := xs) fun y m => h y (List.mem_cons_of_mem _ m)
    have z := lc_tup (gt := gt1) (ff := ff) (w := wipeD e vs1) (g := g) h4
    unfold lcGo2
    rw [h1, Option.bind_some, h2, Option.bind_some, z, Option.bind_some, ih, Option.bind_some, List.flatMap_cons, List.map_append]
def subT : PyData → List PyData
  | .tuple es => es
  | _ => []
theorem tupOf_sub {d : PyData} {n : Nat} (h : tupOf d n = true) : d = .tuple (subT d) ∧ (subT d).length = n := by
  obtain ⟨es, rfl, e⟩ := tupOf_len h
  exact ⟨rfl, e⟩
def rowsOk (many : Nat) (hs : List Int) (w : Int) (d : PyData) : Bool := match d with
  | .tuple ts => decide (ts.length = many) && (ts.all fun t => tupOf t hs.length) && ((ts.flatMap subT).all fun l => lineOk many hs w l)
  | _ => false
theorem flat_le {n : Nat} : ∀ {ts : List PyData}, (∀ t ∈ ts, (subT t).length ≤ n) → (ts.flatMap subT).length ≤ ts.length * n
  | [], _ => Nat.zero_le _
  | t :: ts, h => by
    have ih := flat_le (n := n) (ts := ts) fun x m => h x (List.mem_cons_of_mem _ m)
    have h1 := h t List.mem_cons_self
    rw [List.flatMap_cons, List.length_append, List.length_cons, Nat.add_mul, Nat.one_mul]
    omega
theorem rows_ok (d : PyData) (many : Nat) (hs : List Int) (hne : hs ≠ []) (hh : hs.length ≤ 1000) (h : shorts 4 d) : Ans (F__is_rows [d, .int (many : Nat), hT hs]) (rowsOk many hs (maxI hs + 1) d) := by
  unfold F__is_rows
  refine def_s (?_ : sSeq _ _ _ = _)
  have h1 := call_ok (ds := startD N__is_rows [d, .int (many : Nat), hT hs]) (n := 2) (F := F_is_tuple_of) (cons_ok (f := fVar 0) rfl (one_ok (f := fVar 1) rfl)) rfl (tof_ok d many)
  cases ct : tupOf d many with
  | false =>
    rw [ct] at h1
    have e : rowsOk many hs (maxI hs + 1) d = false := by
      cases d with
      | tuple ts =>
        have ct : decide ((ts.length : Int) = many) = false := ct
        have ct2 : decide (ts.length = many) = false := decide_eq_false fun z => by rw [z] at ct; simp at ct
        show (decide (ts.length = many) && _ && _) = false
        rw [ct2]; rfl
      | _ => rfl
    rw [e]
    exact ifret (b := true) (orT_ok (b := false) (notT_ok (test_ok h1)) fun c => by cases c) (fun _ => rfl) rfl fun c => by cases c
  | true =>
    rw [ct] at h1
    obtain ⟨ts, rfl, hl⟩ := tupOf_len ct
    have lt : ts.length ≤ 1000 := h.1
    have z := hall_lc (q := wkT (fVar 0)) (gt := tgName 3) (ff := fCall 2 F_is_tuple_of (fCons (fVar 3) (fCons (fCB hLen (fCons (fVar 2) fNil)) fNil))) (ds := startD N__is_rows [.tuple ts, .int (many : Nat), hT hs]) (vs := [3]) (w := [some (.tuple ts), some (.int (many : Nat)), some (hT hs), none, none]) (f := fun t => tupOf t hs.length) (xs := ts) rfl (by omega) rfl fun t m => ⟨[some (.tuple ts), some (.int (many : Nat)), some (hT hs), some t, none], rfl, call_ok (n := 2) (F := F_is_tuple_of) (cons_ok (f := fVar 3) rfl (one_ok (hT_len hs _ 2 rfl))) rfl (tof_ok t hs.length)⟩
    have o := orT_ok (notT_ok (test_ok h1)) fun _ => notT_ok (test_ok z)
    cases ca : ts.all fun t => tupOf t hs.length with
    | false =>
      rw [ca] at o
      exact ifret (b := true) o (fun _ => by simp [rowsOk, ca]) rfl fun c => by cases c
    | true =>
      rw [ca] at o
      refine ifret (b := false) o (fun c => by cases c) rfl fun _ => ret_ok ?_
      have each : ∀ t ∈ ts, t = .tuple (subT t) ∧ (subT t).length = hs.length := fun t m => tupOf_sub (List.all_eq_true.mp ca t m)
      have z2 := lc2_all (gt := tgName 3) (gt1 := tgName 4) (q1 := wkT (fVar 3)) (ff := fCall 3 F__is_line (fCons (fVar 4) (fCons (fVar 1) (fCons (fVar 2) fNil)))) (vs1 := [4]) (w := [some (.tuple ts), some (.int (many : Nat)), some (hT hs), none, none]) (sub := subT) (g := fun l => .bool (lineOk many hs (maxI hs + 1) l)) (xs := ts) fun t m => by
        refine ⟨[some (.tuple ts), some (.int (many : Nat)), some (hT hs), some t, none], rfl, ?_, fun l ml => ?_⟩
        · show asT t = _
          rw [(each t m).1]; rfl
        · have st := h.2 t m
          rw [(each t m).1] at st
          have sl := st.2 l ml
          have sl2 : shorts 2 l := sl
          exact ⟨[some (.tuple ts), some (.int (many : Nat)), some (hT hs), some t, some l], rfl, call_ok (n := 3) (F := F__is_line) (cons_ok (f := fVar 4) rfl (cons_ok (f := fVar 1) rfl (one_ok (f := fVar 2) rfl))) rfl (line_ok l many hs hne sl2)⟩
      have fl : (ts.flatMap subT).length ≤ 1000000 := by
        have := flat_le (n := 1000) (ts := ts) fun t m => by rw [(each t m).2]; exact hh
        have : ts.length * 1000 ≤ 1000 * 1000 := Nat.mul_le_mul_right _ lt
        omega
      have z3 : fLc2 (wkT (fVar 0)) (tgName 3) (wkT (fVar 3)) (tgName 4) (fCall 3 F__is_line (fCons (fVar 4) (fCons (fVar 1) (fCons (fVar 2) fNil)))) [3, 4] [4] (startD N__is_rows [.tuple ts, .int (many : Nat), hT hs]) = some (.list ((ts.flatMap subT).map fun l => .bool (lineOk many hs (maxI hs + 1) l))) := by
        unfold fLc2
        rw [show wkT (fVar 0) (startD N__is_rows [.tuple ts, .int (many : Nat), hT hs]) = some ts from rfl, Option.bind_some, show wipeD (startD N__is_rows [.tuple ts, .int (many : Nat), hT hs]) [3, 4] = [some (.tuple ts), some (.int (many : Nat)), some (hT hs), none, none] from rfl, z2, Option.bind_some, if_pos (by rw [List.length_map]; exact fl)]
      rw [cb_ok (k := hAll) (one_ok z3) (show _ = some (.bool ((ts.flatMap subT).all fun l => lineOk many hs (maxI hs + 1) l)) from by
        show (bools _).bind _ = _
        rw [bools_all, Option.bind_some, List.all_map]; rfl)]
      have e2 : decide (ts.length = many) = true := decide_eq_true hl
      show _ = some (PyData.bool (decide (ts.length = many) && (ts.all fun t => tupOf t hs.length) && _))
      rw [e2, ca]; rfl
def huesOk (hs : List Int) : Bool := (hs.all fun n => decide (0 ≤ n)) && (decide (0 < hs.length) && (decide (1 ≤ maxI hs) && decide (maxI hs = ((dedI hs).length : Int) - 1)))
theorem hues_ok (d : PyData) (h : short d) : Ans (F__is_hues [d]) (match nums? d with | some hs => huesOk hs | none => false) := by
  unfold F__is_hues
  refine def_ret (?_ : fAnd _ _ _ = _)
  have h1 := call_ok (ds := startD N__is_hues [d]) (n := 2) (F := F_has_numbers_from) (cons_ok (f := fVar 0) rfl (one_ok (f := fC (.int 0)) rfl)) rfl (from_ok d 0 h)
  cases c : nums? d with
  | none => rw [c] at h1; exact and_ok (b := false) h1 fun c => by cases c
  | some hs =>
    rw [c] at h1
    have e := nums_eq c
    subst e
    have hl : hs.length ≤ 1000 := by have : (hs.map PyData.int).length ≤ 1000 := h; rwa [List.length_map] at this
    have g1 : fOp gGt (fCB hLen (fCons (fVar 0) fNil)) (fC (.int 0)) (startD N__is_hues [hT hs]) = some (.bool (decide ((0 : Int) < hs.length))) := op_ok (hT_len hs _ 0 rfl) rfl rfl
    have z := and_ok h1 fun _ => and_ok g1 (g := fChain gLe gEqI (fC (.int 1)) (fCB hMaxT (fCons (fVar 0) fNil)) (fOp gSub (fLenSet (fVar 0)) (fC (.int 1)))) (b := decide (1 ≤ maxI hs) && decide (maxI hs = ((dedI hs).length : Int) - 1)) fun cc => by
      have hne : hs ≠ [] := fun z => by rw [z] at cc; exact absurd cc (by decide)
      have mx := max_ok hs hne (ds := startD N__is_hues [hT hs]) (i := 0) rfl
      have ls : fLenSet (fVar 0) (startD N__is_hues [hT hs]) = some (.int (dedI hs).length) := by
        show (intsOf (hs.map PyData.int)).bind _ = _
        rw [intsOf_map, Option.bind_some, if_pos hl]
      unfold fChain
      rw [show fC (.int 1) (startD N__is_hues [hT hs]) = some (.int 1) from rfl, Option.bind_some, mx, Option.bind_some]
      show ((gLe (.int 1) (.int (maxI hs))).bind asB).bind _ = _
      rw [show (gLe (.int 1) (.int (maxI hs))).bind asB = some (decide (1 ≤ maxI hs)) from rfl, Option.bind_some]
      by_cases c : 1 ≤ maxI hs
      · rw [decide_eq_true c, if_pos rfl, op_ok ls (show fC (.int 1) _ = some (.int 1) from rfl) rfl]; rfl
      · rw [decide_eq_false c]; rfl
    rw [z]
    have e0 : decide ((0 : Int) < hs.length) = decide (0 < hs.length) := decide_eq_decide.mpr (by omega)
    rw [e0]; rfl
def ansOk (d : PyData) : Bool := match d with
  | .tuple es => decide (0 < es.length) && es.all Ph.isBool
  | _ => false
theorem answers_ok (d : PyData) (h : short d) : Ans (F_is_answers [d]) (ansOk d) := by
  unfold F_is_answers
  refine def_ret (?_ : fAnd _ _ _ = _)
  have h1 : fIs Ph.isTuple (fVar 0) (startD N_is_answers [d]) = some (.bool (Ph.isTuple d)) := rfl
  cases d with
  | tuple es =>
    have hl : es.length ≤ 1000 := h
    have g1 : fOp gGt (fCB hLen (fCons (fVar 0) fNil)) (fC (.int 0)) (startD N_is_answers [.tuple es]) = some (.bool (decide ((0 : Int) < es.length))) := op_ok (cb_ok (one_ok (f := fVar 0) rfl) rfl) rfl rfl
    have z := hall_lc (q := wkT (fVar 0)) (gt := tgName 1) (ff := fIs Ph.isBool (fVar 1)) (ds := startD N_is_answers [.tuple es]) (vs := [1]) (w := [some (.tuple es), none]) (f := Ph.isBool) (xs := es) rfl (by omega) rfl fun x m => ⟨[some (.tuple es), some x], rfl, rfl⟩
    rw [and_ok h1 fun _ => and_ok g1 fun _ => z]
    have e0 : decide ((0 : Int) < es.length) = decide (0 < es.length) := decide_eq_decide.mpr (by omega)
    rw [e0]; rfl
  | _ => exact and_ok (b := false) h1 fun c => by cases c
def begOk (many : Int) (hs : List Int) (d : PyData) : Bool := match d with
  | .tuple [f, h] => inR f many && hueOf hs 0 h
  | _ => false
theorem len2 {es : List PyData} (h : es.length = 2) : ∃ a b, es = [a, b] := match es, h with
  | [a, b], _ => ⟨a, b, rfl⟩
theorem begin_ok (d : PyData) (many : Int) (hs : List Int) : Ans (F__is_begin [d, .int many, hT hs]) (begOk many hs d) := by
  unfold F__is_begin
  refine def_ret (?_ : fAnd _ _ _ = _)
  have h1 := call_ok (ds := startD N__is_begin [d, .int many, hT hs]) (n := 2) (F := F_is_tuple_of) (cons_ok (f := fVar 0) rfl (one_ok (f := fC (.int 2)) rfl)) rfl (tof_ok d 2)
  cases ct : tupOf d 2 with
  | false =>
    rw [ct] at h1
    have e : begOk many hs d = false := by
      unfold begOk
      split
      · cases ct
      · rfl
    rw [e]
    exact and_ok (b := false) h1 fun c => by cases c
  | true =>
    rw [ct] at h1
    obtain ⟨es, rfl, hl⟩ := tupOf_len (n := 2) ct
    obtain ⟨a, b, rfl⟩ := len2 hl
    have i0 := op_ok (show fVar 0 (startD N__is_begin [.tuple [a, b], .int many, hT hs]) = some (.tuple [a, b]) from rfl) (show fC (.int 0) _ = some (.int 0) from rfl) (ix_lit 0 (es := [a, b]) rfl)
    have i1 := op_ok (show fVar 0 (startD N__is_begin [.tuple [a, b], .int many, hT hs]) = some (.tuple [a, b]) from rfl) (show fC (.int 1) _ = some (.int 1) from rfl) (ix_lit 1 (es := [a, b]) rfl)
    rw [and_ok h1 fun _ => and_ok (call_ok (n := 2) (F := F__is_flag) (cons_ok i0 (one_ok (f := fVar 1) rfl)) rfl (flag_ok a many)) fun _ => call_ok (n := 3) (F := F__is_hue_of) (cons_ok i1 (cons_ok (f := fVar 2) rfl (one_ok (f := fC (.int 0)) rfl))) rfl (hue_ok b hs 0)]
    rfl
def bookOk (d : PyData) : Bool := match d with
  | .tuple [.tuple as, h, b, r] => ansOk (.tuple as) && (match nums? h with
    | some hs => huesOk hs && (begOk as.length hs b && rowsOk as.length hs (maxI hs + 1) r)
    | none => false)
  | _ => false
theorem book_ok (d : PyData) (h : shorts 5 d) : Ans (F_is_book [d]) (bookOk d) := by
  unfold F_is_book
  refine def_s (?_ : sSeq _ _ _ = _)
  have h1 := call_ok (ds := startD N_is_book [d]) (n := 2) (F := F_is_tuple_of) (cons_ok (f := fVar 0) rfl (one_ok (f := fC (.int 4)) rfl)) rfl (tof_ok d 4)
  cases ct : tupOf d 4 with
  | false =>
    rw [ct] at h1
    have e : bookOk d = false := by
      unfold bookOk
      split
      · cases ct
      · rfl
    rw [e]
    exact ifret (b := true) (notT_ok (test_ok h1)) (fun _ => rfl) rfl fun c => by cases c
  | true =>
    rw [ct] at h1
    obtain ⟨es, rfl, hl⟩ := tupOf_len (n := 4) ct
    obtain ⟨a, q, b, r, rfl⟩ := len4 hl
    have sa := h.2 a (by simp)
    have sq := h.2 q (by simp)
    have sr := h.2 r (by simp)
    refine ifret (b := false) (notT_ok (test_ok h1)) (fun c => by cases c) rfl fun _ => ?_
    refine seq_asg (f := fVar 0) rfl rfl ?_
    show sSeq _ _ [some (.tuple [a, q, b, r]), some a, some q, some b, some r] = _
    have q1 := test_ok (call_ok (ds := [some (.tuple [a, q, b, r]), some a, some q, some b, some r]) (n := 1) (F := F_is_answers) (one_ok (f := fVar 1) rfl) rfl (answers_ok a (shorts_short sa)))
    have q2 := test_ok (call_ok (ds := [some (.tuple [a, q, b, r]), some a, some q, some b, some r]) (n := 1) (F := F__is_hues) (one_ok (f := fVar 2) rfl) rfl (hues_ok q (shorts_short sq)))
    have o := orT_ok (notT_ok q1) fun _ => notT_ok q2
    cases c1 : ansOk a with
    | false =>
      rw [c1] at o
      have e : bookOk (.tuple [a, q, b, r]) = false := by
        cases a with
        | tuple as => show (ansOk (.tuple as) && _) = false; rw [c1]; rfl
        | _ => rfl
      rw [e]
      exact ifret (b := true) o (fun _ => rfl) rfl fun c => by cases c
    | true =>
      cases a with
      | tuple as =>
        cases cq : nums? q with
        | none =>
          rw [c1, cq] at o
          have e : bookOk (.tuple [.tuple as, q, b, r]) = false := by
            show (ansOk (.tuple as) && match nums? q with | some hs => _ | none => false) = false
            rw [cq, Bool.and_false]
          rw [e]
          exact ifret (b := true) o (fun _ => rfl) rfl fun c => by cases c
        | some hs =>
          rw [c1, cq] at o
          have eq := nums_eq cq
          subst eq
          have e : bookOk (.tuple [.tuple as, hT hs, b, r]) = (huesOk hs && (begOk as.length hs b && rowsOk as.length hs (maxI hs + 1) r)) := by
            show (ansOk (.tuple as) && match nums? (hT hs) with | some hs => _ | none => false) = _
            rw [c1, cq]; rfl
          rw [e]
          cases c2 : huesOk hs with
          | false =>
            have o : _ = some (!true || !huesOk hs) := o
            rw [c2] at o
            exact ifret (b := true) o (fun _ => rfl) rfl fun c => by cases c
          | true =>
            have o : _ = some (!true || !huesOk hs) := o
            rw [c2] at o
            refine ifret (b := false) o (fun c => by cases c) rfl fun _ => ret_ok ?_
            have hne : hs ≠ [] := fun z => by rw [z] at c2; exact absurd c2 (by decide)
            have hh : hs.length ≤ 1000 := by have z : (hs.map PyData.int).length ≤ 1000 := shorts_short sq; rwa [List.length_map] at z
            have la : fCB hLen (fCons (fVar 1) fNil) [some (.tuple [.tuple as, hT hs, b, r]), some (.tuple as), some (hT hs), some b, some r] = some (.int as.length) := cb_ok (one_ok (f := fVar 1) rfl) rfl
            rw [and_ok (call_ok (n := 3) (F := F__is_begin) (cons_ok (f := fVar 3) rfl (cons_ok la (one_ok (f := fVar 2) rfl))) rfl (begin_ok b as.length hs)) fun _ => call_ok (n := 3) (F := F__is_rows) (cons_ok (f := fVar 4) rfl (cons_ok la (one_ok (f := fVar 2) rfl))) rfl (rows_ok r as.length hs hne hh sr)]
            rfl
      | _ => cases c1
end K13
namespace K13
open PySem Ph
theorem seq_nx {s t : SEnv → Option Ph.Res} {ds ds' : SEnv} {r : Option Ph.Res} (h1 : s ds = some (.nx ds')) (h2 : t ds' = r) : sSeq s t ds = r := by
  unfold sSeq
  rw [h1]; exact h2
theorem seq_rt {s t : SEnv → Option Ph.Res} {ds : SEnv} {d : PyData} (h1 : s ds = some (.rt d)) : sSeq s t ds = some (.rt d) := by
  unfold sSeq
  rw [h1]; rfl
/-- a walk that gathers -/
theorem gather {a b c : Option PyData} {x5 x6 x7 x8 : Option PyData} : ∀ {ts acc : List PyData} {x3 : Option PyData}, (∀ t ∈ ts, t = .tuple (subT t)) → acc.length + (ts.flatMap subT).length ≤ 1000000 →
    ∃ y3, forGo (tgName 3) (sAsg (fOp gCatL (fVar 4) (fCB hLst (fCons (fVar 3) fNil))) (tgName 4)) [a, b, c, x3, some (.list acc), x5, x6, x7, x8] ts = some (.nx [a, b, c, y3, some (.list (acc ++ ts.flatMap subT)), x5, x6, x7, x8])
  | [], acc, x3, _, _ => ⟨x3, by rw [List.flatMap_nil, List.append_nil]; rfl⟩
  | t :: ts, acc, x3, h, hl => by
    have ht := h t List.mem_cons_self
    rw [List.flatMap_cons, List.length_append] at hl
    obtain ⟨y3, z⟩ := gather (a := a) (b := b) (c := c) (x5 := x5) (x6 := x6) (x7 := x7) (x8 := x8) (ts := ts) (acc := acc ++ subT t) (x3 := some t) (fun x m => h x (List.mem_cons_of_mem _ m)) (by rw [List.length_append]; omega)
    refine ⟨y3, ?_⟩
    unfold forGo
    rw [show tgName 3 [a, b, c, x3, some (.list acc), x5, x6, x7, x8] t = some [a, b, c, some t, some (.list acc), x5, x6, x7, x8] from rfl, Option.bind_some]
    have e : sAsg (fOp gCatL (fVar 4) (fCB hLst (fCons (fVar 3) fNil))) (tgName 4) [a, b, c, some t, some (.list acc), x5, x6, x7, x8] = some (.nx [a, b, c, some t, some (.list (acc ++ subT t)), x5, x6, x7, x8]) := by
      unfold sAsg
      rw [op_ok (f := fVar 4) (d := .list (acc ++ subT t)) (show fVar 4 _ = some (.list acc) from rfl) (cb_ok (one_ok (show fVar 3 _ = some t from rfl)) (show hLst [t] = some (.list (subT t)) from by rw [ht]; rfl)) (by
        show (if acc.length + (subT t).length ≤ 1000000 then _ else none) = _
        rw [if_pos (by omega)])]
      rfl
    rw [e, Option.bind_some]
    dsimp only
    rw [z, List.flatMap_cons, List.append_assoc]
/-- a walk that ends at the first bad line -/
theorem judge {f : SEnv → Option Ph.Res} {good : PyData → Bool} {a b c x3 x4 x5 x7 x8 : Option PyData} : ∀ {ls : List PyData} {x6 : Option PyData}, (∀ l ∈ ls, f [a, b, c, x3, x4, x5, some l, x7, x8] = some (if good l then .nx [a, b, c, x3, x4, x5, some l, x7, x8] else .rt (.bool false))) →
    (ls.all good = true → ∃ y6, forGo (tgName 6) f [a, b, c, x3, x4, x5, x6, x7, x8] ls = some (.nx [a, b, c, x3, x4, x5, y6, x7, x8])) ∧ (ls.all good = false → forGo (tgName 6) f [a, b, c, x3, x4, x5, x6, x7, x8] ls = some (.rt (.bool false)))
  | [], x6, _ => ⟨fun _ => ⟨x6, rfl⟩, fun h => by cases h⟩
  | l :: ls, x6, h => by
    have ih := judge (f := f) (good := good) (a := a) (b := b) (c := c) (x3 := x3) (x4 := x4) (x5 := x5) (x7 := x7) (x8 := x8) (ls := ls) (x6 := some l) fun y m => h y (List.mem_cons_of_mem _ m)
    have h1 := h l List.mem_cons_self
    rw [List.all_cons]
    unfold forGo
    rw [show tgName 6 [a, b, c, x3, x4, x5, x6, x7, x8] l = some [a, b, c, x3, x4, x5, some l, x7, x8] from rfl, Option.bind_some, h1]
    cases c1 : good l with
    | true =>
      rw [if_pos rfl, Bool.true_and]
      exact ih
    | false =>
      rw [if_neg Bool.false_ne_true, Bool.false_and]
      exact ⟨(fun h => by cases h), fun _ => rfl⟩
def wideOf (ls : List PyData) : Nat := match ls with
  | .tuple es :: _ => es.length
  | _ => 0
def lrowsOk (many : Nat) (hs : List Int) (d : PyData) : Bool := match d with
  | .tuple ts => decide (ts.length = many) && (ts.all fun t => tupOf t hs.length) && (decide (2 ≤ wideOf (ts.flatMap subT)) && ((ts.flatMap subT).all fun l => tupOf l (wideOf (ts.flatMap subT))) && (hs.all fun h => decide (h < (wideOf (ts.flatMap subT) : Int))) && ((ts.flatMap subT).all fun l => (enumD (subT l)).all (pRow many hs)))
  | _ => false
theorem ge_any (W : Nat) : ∀ hs : List Int, (hs.any fun h => decide ((W : Int) ≤ h)) = !(hs.all fun h => decide (h < (W : Int)))
  | [] => rfl
  | n :: hs => by
    rw [List.any_cons, List.all_cons, ge_any W hs]
    by_cases c : n < (W : Int)
    · rw [decide_eq_true c, decide_eq_false (by omega)]; simp
    · rw [decide_eq_false c, decide_eq_true (by omega)]; simp
theorem lrows_ok (d : PyData) (as : List PyData) (hs : List Int) (ha : 0 < as.length) (hp : 0 < hs.length) (hh : hs.length ≤ 1000) (h : shorts 4 d) : Ans (F__law_rows_right [.tuple as, hT hs, d]) (lrowsOk as.length hs d) := by
  unfold F__law_rows_right
  refine def_s (?_ : sSeq _ _ _ = _)
  have la : fCB hLen (fCons (fVar 0) fNil) (startD N__law_rows_right [.tuple as, hT hs, d]) = some (.int as.length) := cb_ok (one_ok (f := fVar 0) rfl) rfl
  have h1 := call_ok (ds := startD N__law_rows_right [.tuple as, hT hs, d]) (n := 2) (F := F__law_is_line) (cons_ok (f := fVar 2) rfl (one_ok la)) rfl (lline_ok d as.length)
  cases ct : tupOf d as.length with
  | false =>
    rw [ct] at h1
    have e : lrowsOk as.length hs d = false := by
      cases d with
      | tuple ts =>
        have ct : decide ((ts.length : Int) = as.length) = false := ct
        have ct2 : decide (ts.length = as.length) = false := decide_eq_false fun z => by rw [z] at ct; simp at ct
        show (decide (ts.length = as.length) && _ && _) = false
        rw [ct2]; rfl
      | _ => rfl
    rw [e]
    exact ifret (b := true) (orT_ok (b := false) (notT_ok (test_ok h1)) fun c => by cases c) (fun _ => rfl) rfl fun c => by cases c
  | true =>
    rw [ct] at h1
    obtain ⟨ts, rfl, hl⟩ := tupOf_len ct
    have lt : ts.length ≤ 1000 := h.1
    have z := some_ok (ds := startD N__law_rows_right [.tuple as, hT hs, .tuple ts]) (q := wkT (fVar 2)) (gt := tgName 3) (p := fNotT (fTest (fCall 2 F__law_is_line (fCons (fVar 3) (fCons (fCB hLen (fCons (fVar 1) fNil)) fNil))))) (vs := [3]) (w := [some (.tuple as), some (hT hs), some (.tuple ts), none, none, none, none, none, none]) (k := fun t => !tupOf t hs.length) (xs := ts) rfl (by omega) rfl fun t m => ⟨[some (.tuple as), some (hT hs), some (.tuple ts), some t, none, none, none, none, none], rfl, notT_ok (test_ok (call_ok (n := 2) (F := F__law_is_line) (cons_ok (f := fVar 3) rfl (one_ok (hT_len hs _ 1 rfl))) rfl (lline_ok t hs.length)))⟩
    have o := orT_ok (notT_ok (test_ok h1)) fun _ => z
    have e2 : decide (ts.length = as.length) = true := decide_eq_true hl
    cases ca : ts.any fun t => !tupOf t hs.length with
    | true =>
      rw [ca] at o
      have e : lrowsOk as.length hs (.tuple ts) = false := by
        have : (ts.all fun t => tupOf t hs.length) = false := by
          rw [← all_any] at ca
          simpa using ca
        show (decide (ts.length = as.length) && (ts.all fun t => tupOf t hs.length) && _) = false
        rw [this, Bool.and_false]; rfl
      rw [e]
      exact ifret (b := true) o (fun _ => rfl) rfl fun c => by cases c
    | false =>
      rw [ca] at o
      have ca2 : (ts.all fun t => tupOf t hs.length) = true := by
        rw [← all_any] at ca
        simpa using ca
      have each : ∀ t ∈ ts, t = .tuple (subT t) ∧ (subT t).length = hs.length := fun t m => tupOf_sub (List.all_eq_true.mp ca2 t m)
      have val : lrowsOk as.length hs (.tuple ts) = (decide (2 ≤ wideOf (ts.flatMap subT)) && ((ts.flatMap subT).all fun l => tupOf l (wideOf (ts.flatMap subT))) && (hs.all fun h => decide (h < (wideOf (ts.flatMap subT) : Int))) && ((ts.flatMap subT).all fun l => (enumD (subT l)).all (pRow as.length hs))) := by
        show (decide (ts.length = as.length) && (ts.all fun t => tupOf t hs.length) && _) = _
        rw [e2, ca2]; rfl
      rw [val]
      have sh : ∀ l ∈ ts.flatMap subT, shorts 2 l := fun l m => by
        obtain ⟨t, mt, ml⟩ := List.mem_flatMap.mp m
        have st := h.2 t mt
        rw [(each t mt).1] at st
        exact st.2 l ml
      have fl : (ts.flatMap subT).length ≤ 1000000 := by
        have := flat_le (n := 1000) (ts := ts) fun t m => by rw [(each t m).2]; exact hh
        have : ts.length * 1000 ≤ 1000 * 1000 := Nat.mul_le_mul_right _ lt
        omega
      have fp : ∃ l0 r, ts.flatMap subT = l0 :: r := by
        cases ts with
        | nil => simp at hl; omega
        | cons t r =>
          have l1 := (each t List.mem_cons_self).2
          cases c : subT t with
          | nil => rw [c] at l1; simp at l1; omega
          | cons l0 q => exact ⟨l0, _, by rw [List.flatMap_cons, c]; rfl⟩
      refine ifret (b := false) o (fun c => by cases c) rfl fun _ => ?_
      refine seq_asg (f := fLst fNil) (d := .list []) rfl rfl ?_
      obtain ⟨y3, gz⟩ := gather (a := some (.tuple as)) (b := some (hT hs)) (c := some (.tuple ts)) (x5 := none) (x6 := none) (x7 := none) (x8 := none) (ts := ts) (acc := []) (x3 := none) (fun t m => (each t m).1) (by simpa using fl)
      rw [List.nil_append] at gz
      refine seq_nx (ds' := [some (.tuple as), some (hT hs), some (.tuple ts), y3, some (.list (ts.flatMap subT)), none, none, none, none]) gz ?_
      generalize ts.flatMap subT = L at fl fp sh ⊢
      obtain ⟨l0, r, rfl⟩ := fp
      have ix0 : fOp gIxL (fVar 4) (fC (.int 0)) [some (.tuple as), some (hT hs), some (.tuple ts), y3, some (.list (l0 :: r)), none, none, none, none] = some l0 := op_ok rfl rfl (by
        show L2.atI (l0 :: r) 0 = _
        unfold L2.atI L2.ixN
        rw [if_pos (by decide), if_pos (by rw [List.length_cons]; omega)]
        rfl)
      have t0 : fTest (fIs Ph.isTuple (fOp gIxL (fVar 4) (fC (.int 0)))) [some (.tuple as), some (hT hs), some (.tuple ts), y3, some (.list (l0 :: r)), none, none, none, none] = some (Ph.isTuple l0) := test_ok (by unfold fIs; rw [ix0]; rfl)
      have wd : fIfE (fTest (fIs Ph.isTuple (fOp gIxL (fVar 4) (fC (.int 0))))) (fCB hLen (fCons (fOp gIxL (fVar 4) (fC (.int 0))) fNil)) (fC (.int 0)) [some (.tuple as), some (hT hs), some (.tuple ts), y3, some (.list (l0 :: r)), none, none, none, none] = some (.int (wideOf (l0 :: r) : Nat)) := by
        unfold fIfE
        rw [t0, Option.bind_some]
        cases l0 with
        | tuple e => rw [if_pos (show Ph.isTuple (.tuple e) = true from rfl)]; exact cb_ok (one_ok ix0) rfl
        | _ => rfl
      refine seq_asg wd rfl ?_
      generalize hL : l0 :: r = L at fl sh ⊢
      show sSeq _ _ [some (.tuple as), some (hT hs), some (.tuple ts), y3, some (.list L), some (.int (wideOf L : Nat)), none, none, none] = _
      have w1 : fTest (fOp gLt (fVar 5) (fC (.int 2))) [some (.tuple as), some (hT hs), some (.tuple ts), y3, some (.list L), some (.int (wideOf L : Nat)), none, none, none] = some (decide ((wideOf L : Int) < 2)) := test_ok (op_ok (f := fVar 5) rfl rfl rfl)
      have w2 := some_ok (ds := [some (.tuple as), some (hT hs), some (.tuple ts), y3, some (.list L), some (.int (wideOf L : Nat)), none, none, none]) (q := wkL (fVar 4)) (gt := tgName 3) (p := fNotT (fTest (fCall 2 F__law_is_line (fCons (fVar 3) (fCons (fVar 5) fNil))))) (vs := [3]) (w := [some (.tuple as), some (hT hs), some (.tuple ts), none, some (.list L), some (.int (wideOf L : Nat)), none, none, none]) (k := fun l => !tupOf l (wideOf L)) (xs := L) rfl fl rfl fun l m => ⟨[some (.tuple as), some (hT hs), some (.tuple ts), some l, some (.list L), some (.int (wideOf L : Nat)), none, none, none], rfl, notT_ok (test_ok (call_ok (n := 2) (F := F__law_is_line) (cons_ok (f := fVar 3) rfl (one_ok (f := fVar 5) rfl)) rfl (lline_ok l (wideOf L))))⟩
      have w3 := some_ok (ds := [some (.tuple as), some (hT hs), some (.tuple ts), y3, some (.list L), some (.int (wideOf L : Nat)), none, none, none]) (q := wkT (fVar 1)) (gt := tgName 3) (p := fTest (fOp gGe (fVar 3) (fVar 5))) (vs := [3]) (w := [some (.tuple as), some (hT hs), some (.tuple ts), none, some (.list L), some (.int (wideOf L : Nat)), none, none, none]) (k := fun x => match x with | .int h => decide ((wideOf L : Int) ≤ h) | _ => false) (xs := hs.map PyData.int) rfl (by rw [List.length_map]; omega) rfl fun x m => by
        obtain ⟨n, _, rfl⟩ := List.mem_map.mp m
        exact ⟨_, rfl, test_ok (op_ok (f := fVar 3) rfl rfl rfl)⟩
      have oo := orT_ok w1 fun _ => orT_ok w2 fun _ => w3
      have ev : (decide ((wideOf L : Int) < 2) || ((L.any fun l => !tupOf l (wideOf L)) || ((hs.map PyData.int).any fun x => match x with | .int h => decide ((wideOf L : Int) ≤ h) | _ => false))) = !(decide (2 ≤ wideOf L) && (L.all fun l => tupOf l (wideOf L)) && (hs.all fun h => decide (h < (wideOf L : Int)))) := by
        have f1 : decide ((wideOf L : Int) < 2) = !decide (2 ≤ wideOf L) := by
          by_cases c : 2 ≤ wideOf L
          · rw [decide_eq_true c, decide_eq_false (by omega)]; rfl
          · rw [decide_eq_false c, decide_eq_true (by omega)]; rfl
        have f2 : (L.any fun l => !tupOf l (wideOf L)) = !(L.all fun l => tupOf l (wideOf L)) := by
          rw [← all_any]
          simp
        have f3 : ((hs.map PyData.int).any fun x => match x with | .int h => decide ((wideOf L : Int) ≤ h) | _ => false) = !(hs.all fun h => decide (h < (wideOf L : Int))) := by
          rw [List.any_map]
          exact ge_any (wideOf L) hs
        rw [f1, f2, f3]
        cases decide (2 ≤ wideOf L) <;> cases (L.all fun l => tupOf l (wideOf L)) <;> rfl
      rw [ev] at oo
      cases cb : decide (2 ≤ wideOf L) && (L.all fun l => tupOf l (wideOf L)) && (hs.all fun h => decide (h < (wideOf L : Int))) with
      | false =>
        rw [cb] at oo
        exact ifret (b := true) oo (fun _ => by rw [Bool.false_and]) rfl fun c => by cases c
      | true =>
        rw [cb] at oo
        refine ifret (b := false) oo (fun c => by cases c) rfl fun _ => ?_
        rw [Bool.and_eq_true, Bool.and_eq_true] at cb
        have eachL : ∀ l ∈ L, l = .tuple (subT l) := fun l m => (tupOf_sub (List.all_eq_true.mp cb.1.2 l m)).1
        have jd := judge (f := sIf (fTest (fOp gNeD (fLc (wkET (fVar 6)) (tgTwo 7 8) (fNotT (fTest (fCall 4 F__law_is_row (fCons (fCB hLen (fCons (fVar 0) fNil)) (fCons (fVar 1) (fCons (fVar 7) (fCons (fVar 8) fNil))))))) (fC (.int 1)) [7, 8]) (fLst fNil))) (sRet (fC (.bool false))) sSkip) (good := fun l => (enumD (subT l)).all (pRow as.length hs)) (a := some (.tuple as)) (b := some (hT hs)) (c := some (.tuple ts)) (x3 := y3) (x4 := some (.list L)) (x5 := some (.int (wideOf L : Nat))) (x7 := none) (x8 := none) (ls := L) (x6 := none) fun l m => by
          have el := eachL l m
          have sl := sh l m
          rw [el] at sl
          have ll : (subT l).length ≤ 1000 := sl.1
          have q := some_ok (ds := [some (.tuple as), some (hT hs), some (.tuple ts), y3, some (.list L), some (.int (wideOf L : Nat)), some l, none, none]) (q := wkET (fVar 6)) (gt := tgTwo 7 8) (p := fNotT (fTest (fCall 4 F__law_is_row (fCons (fCB hLen (fCons (fVar 0) fNil)) (fCons (fVar 1) (fCons (fVar 7) (fCons (fVar 8) fNil))))))) (vs := [7, 8]) (w := [some (.tuple as), some (hT hs), some (.tuple ts), y3, some (.list L), some (.int (wideOf L : Nat)), some l, none, none]) (k := fun p => !pRow as.length hs p) (xs := enumD (subT l)) (by show ((asT l).bind fun es => some (enumD es)) = _; rw [el]; rfl) (by rw [enum_len]; omega) rfl fun p mp => by
            obtain ⟨k, e, he, rfl⟩ := enum_mem mp
            have se := sl.2 e (List.mem_of_getElem? he)
            exact ⟨[some (.tuple as), some (hT hs), some (.tuple ts), y3, some (.list L), some (.int (wideOf L : Nat)), some l, some (.int (k : Nat)), some e], rfl, notT_ok (test_ok (call_ok (n := 4) (F := F__law_is_row) (cons_ok (cb_ok (one_ok (f := fVar 0) rfl) rfl) (cons_ok (f := fVar 1) rfl (cons_ok (f := fVar 7) rfl (one_ok (f := fVar 8) rfl)))) rfl (lrow_ok e k as.length hs hh se)))⟩
          unfold sIf
          rw [q, Option.bind_some, ← all_any]
          simp only [Bool.not_not]
          cases (enumD (subT l)).all (pRow as.length hs) <;> rfl
        cases cg : L.all fun l => (enumD (subT l)).all (pRow as.length hs) with
        | true =>
          obtain ⟨y6, jz⟩ := jd.1 cg
          refine seq_nx (ds' := [some (.tuple as), some (hT hs), some (.tuple ts), y3, some (.list L), some (.int (wideOf L : Nat)), y6, none, none]) jz ?_
          exact ret_ok rfl
        | false => exact seq_rt (jd.2 cg)
end K13
namespace K13
open PySem Ph
theorem max_fold : ∀ (ns : List Int) (a : Int), (ns.foldl (fun a y => if a < y then y else a) a = a ∨ ns.foldl (fun a y => if a < y then y else a) a ∈ ns) ∧ a ≤ ns.foldl (fun a y => if a < y then y else a) a ∧ ∀ n ∈ ns, n ≤ ns.foldl (fun a y => if a < y then y else a) a
  | [], a => ⟨.inl rfl, Int.le_refl _, fun n h => by cases h⟩
  | x :: ns, a => by
    rw [List.foldl_cons]
    obtain ⟨h1, h2, h3⟩ := max_fold ns (if a < x then x else a)
    by_cases c : a < x
    · rw [if_pos c] at h1 h2 h3 ⊢
      refine ⟨.inr ?_, by omega, fun n m => ?_⟩
      · rcases h1 with h1 | h1
        · rw [h1]; exact List.mem_cons_self
        · exact List.mem_cons_of_mem _ h1
      · rcases List.mem_cons.mp m with e | m
        · rw [e]; exact h2
        · exact h3 n m
    · rw [if_neg c] at h1 h2 h3 ⊢
      refine ⟨?_, h2, fun n m => ?_⟩
      · exact h1.imp id (List.mem_cons_of_mem _)
      · rcases List.mem_cons.mp m with e | m
        · rw [e]; omega
        · exact h3 n m
theorem max_in {hs : List Int} (h : hs ≠ []) : maxI hs ∈ hs ∧ ∀ n ∈ hs, n ≤ maxI hs := by
  cases hs with
  | nil => exact absurd rfl h
  | cons x ns =>
    obtain ⟨h1, h2, h3⟩ := max_fold ns x
    refine ⟨?_, fun n m => ?_⟩
    · show ns.foldl _ x ∈ _
      rcases h1 with h1 | h1
      · rw [h1]; exact List.mem_cons_self
      · exact List.mem_cons_of_mem _ h1
    · show n ≤ ns.foldl _ x
      rcases List.mem_cons.mp m with e | m
      · rw [e]; exact h2
      · exact h3 n m
theorem ded_all {hs : List Int} {W : Nat} (h1 : ∀ n ∈ hs, 0 ≤ n ∧ n < W) (h2 : ∀ k : Nat, k < W → (k : Int) ∈ hs) : (dedI hs).length = W := by
  have nd : ((List.range W).map fun k : Nat => (k : Int)).Nodup := List.Pairwise.map _ (fun a b ne e => ne (by omega)) List.nodup_range
  have z := len_same (nodup_dedI hs) nd fun k => by
    rw [mem_dedI]
    refine ⟨fun m => ?_, fun m => ?_⟩
    · obtain ⟨a, b⟩ := h1 k m
      exact List.mem_map.mpr ⟨k.toNat, List.mem_range.mpr (by omega), by omega⟩
    · obtain ⟨n, hn, e⟩ := List.mem_map.mp m
      rw [← e]
      exact h2 n (List.mem_range.mp hn)
  rw [z, List.length_map, List.length_range]
theorem enum_at {es : List PyData} {k : Nat} {e : PyData} (h : es[k]? = some e) : .tuple [.int (k : Nat), e] ∈ enumD es := by
  unfold enumD
  have hk := (List.getElem?_eq_some_iff.mp h).1
  have := List.getElem_mem (l := es.mapIdx fun i e => PyData.tuple [.int (i : Nat), e]) (n := k) (by rw [List.length_mapIdx]; exact hk)
  rw [List.getElem_mapIdx] at this
  rw [(List.getElem?_eq_some_iff.mp h).2] at this
  exact this
theorem rowOk_hue {many : Int} {hs : List Int} {k : Nat} {d : PyData} (h : rowOk many hs k d = true) : (k : Int) ∈ hs := by
  unfold rowOk at h
  split at h
  · rename_i f o a b
    simp only [Bool.and_eq_true] at h
    have h2 := h.1.2
    unfold hueOf at h2
    split at h2
    · rename_i i
      simp only [Bool.and_eq_true, decide_eq_true_eq] at h2
      obtain ⟨⟨a, b⟩, c⟩ := h2
      rw [← c, List.getD_eq_getElem?_getD, List.getElem?_eq_getElem (by omega)]
      exact List.getElem_mem _
    · cases h2
  · cases h
theorem flat_ne {ts : List PyData} {n m : Nat} (hn : ts.length = n) (h0 : 0 < n) (hm : 0 < m) (each : ∀ t ∈ ts, (subT t).length = m) : ∃ l0 r, ts.flatMap subT = l0 :: r := by
  cases ts with
  | nil => simp at hn; omega
  | cons t r =>
    have l1 := each t List.mem_cons_self
    cases c : subT t with
    | nil => rw [c] at l1; simp at l1; omega
    | cons l0 q => exact ⟨l0, _, by rw [List.flatMap_cons, c]; rfl⟩
theorem rows_same (n : Nat) (hs : List Int) (d : PyData) (hn : 0 < n) (hne : hs ≠ []) (h0 : ∀ x ∈ hs, 0 ≤ x) : (huesOk hs && rowsOk n hs (maxI hs + 1) d) = lrowsOk n hs d := by
  cases d with
  | tuple ts =>
    show (huesOk hs && (decide (ts.length = n) && (ts.all fun t => tupOf t hs.length) && ((ts.flatMap subT).all fun l => lineOk n hs (maxI hs + 1) l))) = (decide (ts.length = n) && (ts.all fun t => tupOf t hs.length) && (decide (2 ≤ wideOf (ts.flatMap subT)) && ((ts.flatMap subT).all fun l => tupOf l (wideOf (ts.flatMap subT))) && (hs.all fun h => decide (h < (wideOf (ts.flatMap subT) : Int))) && ((ts.flatMap subT).all fun l => (enumD (subT l)).all (pRow n hs))))
    by_cases c1 : ts.length = n
    · cases c2 : ts.all fun t => tupOf t hs.length with
      | false => simp
      | true =>
        have hp : 0 < hs.length := List.length_pos_iff.mpr hne
        have each : ∀ t ∈ ts, (subT t).length = hs.length := fun t m => (tupOf_sub (List.all_eq_true.mp c2 t m)).2
        obtain ⟨l0, r, hL⟩ := flat_ne c1 hn hp each
        rw [decide_eq_true c1, hL]
        simp only [Bool.true_and]
        obtain ⟨mi, mx⟩ := max_in hne
        have mp := h0 _ mi
        apply Bool.eq_iff_iff.mpr
        constructor
        · intro h
          rw [Bool.and_eq_true] at h
          obtain ⟨hu, hl⟩ := h
          unfold huesOk at hu
          simp only [Bool.and_eq_true, decide_eq_true_eq] at hu
          obtain ⟨_, _, m1, _⟩ := hu
          have line : ∀ l ∈ l0 :: r, ∃ rs, l = .tuple rs ∧ (rs.length : Int) = maxI hs + 1 ∧ (enumD rs).all (pRow n hs) = true := fun l m => by
            have z := List.all_eq_true.mp hl l m
            unfold lineOk at z
            split at z
            · rename_i rs
              rw [Bool.and_eq_true] at z
              exact ⟨rs, rfl, of_decide_eq_true z.1, z.2⟩
            · cases z
          obtain ⟨rs0, e0, w0, _⟩ := line l0 List.mem_cons_self
          have W : wideOf (l0 :: r) = rs0.length := by rw [e0]; rfl
          rw [W, Bool.and_eq_true, Bool.and_eq_true, Bool.and_eq_true]
          refine ⟨⟨⟨decide_eq_true (by omega), List.all_eq_true.mpr fun l m => ?_⟩, List.all_eq_true.mpr fun x m => ?_⟩, List.all_eq_true.mpr fun l m => ?_⟩
          · obtain ⟨rs, rfl, w, _⟩ := line l m
            exact decide_eq_true (by omega)
          · have := mx x m
            exact decide_eq_true (by omega)
          · obtain ⟨rs, rfl, w, a⟩ := line l m
            exact a
        · intro h
          rw [Bool.and_eq_true, Bool.and_eq_true, Bool.and_eq_true] at h
          obtain ⟨⟨⟨w2, tl⟩, hw⟩, rl⟩ := h
          have w2 := of_decide_eq_true w2
          have hw : ∀ x ∈ hs, x < (wideOf (l0 :: r) : Int) := fun x m => of_decide_eq_true (List.all_eq_true.mp hw x m)
          have line : ∀ l ∈ l0 :: r, l = .tuple (subT l) ∧ (subT l).length = wideOf (l0 :: r) := fun l m => tupOf_sub (List.all_eq_true.mp tl l m)
          have all : ∀ k : Nat, k < wideOf (l0 :: r) → (k : Int) ∈ hs := fun k hk => by
            have l1 := (line l0 List.mem_cons_self).2
            have ra := List.all_eq_true.mp (List.all_eq_true.mp rl l0 List.mem_cons_self) _ (enum_at (es := subT l0) (k := k) (List.getElem?_eq_getElem (by omega)))
            exact rowOk_hue (many := n) ra
          have me : maxI hs = (wideOf (l0 :: r) : Int) - 1 := by
            have a := hw _ mi
            have b := mx _ (all (wideOf (l0 :: r) - 1) (by omega))
            omega
          have de := ded_all (W := wideOf (l0 :: r)) (fun x m => ⟨h0 x m, hw x m⟩) all
          rw [Bool.and_eq_true]
          refine ⟨?_, List.all_eq_true.mpr fun l m => ?_⟩
          · unfold huesOk
            simp only [Bool.and_eq_true, decide_eq_true_eq, List.all_eq_true]
            exact ⟨h0, hp, by omega, by rw [de]; omega⟩
          · obtain ⟨e, w⟩ := line l m
            rw [e]
            show (decide (((subT l).length : Int) = maxI hs + 1) && _) = true
            rw [decide_eq_true (by omega), Bool.true_and]
            exact List.all_eq_true.mp rl l m
    · rw [decide_eq_false c1]; simp
  | _ => show (huesOk hs && false) = false; rw [Bool.and_false]
end K13
namespace K13
open PySem Ph
theorem eq_nil (e : PyData) (ds : SEnv) (i : Nat) (h : fVar i ds = some e) (sh : SeqAt.shaped e = true) (t : Ph.isTuple e = true) : fTest (fOp gEqD (fVar i) (fTup fNil)) ds = some (subT e).isEmpty := by
  cases e with
  | tuple es =>
    refine test_ok (op_ok h (show fTup fNil ds = some (.tuple []) from rfl) ?_)
    unfold gEqD
    rw [if_pos ⟨sh, shaped_tup []⟩]
    cases es <;> simp [PyData.eqv, PyData.eqvAll, subT]
  | _ => cases t
def below (n : Int) (d : PyData) : Prop := ∀ ns, nums? d = some ns → ∀ x ∈ ns, x < n
theorem allIn {es : List PyData} {n : Int} (h : es.all (fun x => inR x n) = true) : ∃ ns : List Int, es = ns.map PyData.int ∧ ∀ x ∈ ns, 0 ≤ x ∧ x < n := by
  have all : ∀ x ∈ es, inR x n = true := fun x m => List.all_eq_true.mp h x m
  have inN : ∀ x, inR x n = true → isN x = true := fun x c => by cases x <;> first | rfl | cases c
  obtain ⟨ns, hn⟩ : ∃ ns, intsOf es = some ns := by
    have z : (intsOf es).isSome = true := by
      rw [intsOf_all]
      exact List.all_eq_true.mpr fun x m => inN x (all x m)
    exact Option.isSome_iff_exists.mp z
  have e := intsOf_eq hn
  subst e
  refine ⟨ns, rfl, fun x m => ?_⟩
  have z := all (.int x) (List.mem_map.mpr ⟨x, m, rfl⟩)
  simp [inR] at z
  exact z
theorem ints_all (ns : List Int) (n : Int) : (ns.map PyData.int).all (fun x => inR x n) = ns.all fun x => decide (0 ≤ x) && decide (x < n) := by
  rw [List.all_map]; rfl
/-- the own judge of a book -/
theorem lbook_ok (d : PyData) (h : shorts 5 d) (sh : ∀ e ∈ subT d, SeqAt.shaped e = true) (lo : ∀ e ∈ subT d, below 99 e) : Ans (F__law_is_book [d]) (bookOk d) := by
  unfold F__law_is_book
  refine def_s (?_ : sSeq _ _ _ = _)
  have h1 := call_ok (ds := startD N__law_is_book [d]) (n := 2) (F := F__law_is_line) (cons_ok (f := fVar 0) rfl (one_ok (f := fC (.int 4)) rfl)) rfl (lline_ok d 4)
  cases ct : tupOf d 4 with
  | false =>
    rw [ct] at h1
    have e : bookOk d = false := by
      unfold bookOk
      split
      · cases ct
      · rfl
    rw [e]
    exact ifret (b := true) (orT_ok (b := false) (notT_ok (test_ok h1)) fun c => by cases c) (fun _ => rfl) rfl fun c => by cases c
  | true =>
    rw [ct] at h1
    obtain ⟨es, rfl, hl⟩ := tupOf_len (n := 4) ct
    obtain ⟨a, q, b, r, rfl⟩ := len4 hl
    have z := some_ok (ds := startD N__law_is_book [.tuple [a, q, b, r]]) (q := wkT (fVar 0)) (gt := tgName 1) (p := fOrT (fNotT (fTest (fIs Ph.isTuple (fVar 1)))) (fTest (fOp gEqD (fVar 1) (fTup fNil)))) (vs := [1]) (w := [some (.tuple [a, q, b, r]), none, none, none, none, none]) (k := fun e => !Ph.isTuple e || (subT e).isEmpty) (xs := [a, q, b, r]) rfl (by show 4 ≤ 1000000; decide) rfl fun e m => by
      refine ⟨[some (.tuple [a, q, b, r]), some e, none, none, none, none], rfl, orT_ok (notT_ok (test_ok (show fIs Ph.isTuple (fVar 1) _ = some (.bool (Ph.isTuple e)) from rfl))) fun c => ?_⟩
      exact eq_nil e _ 1 rfl (sh e m) (by simpa using c)
    have o := orT_ok (notT_ok (test_ok h1)) fun _ => z
    cases ca : [a, q, b, r].any fun e => !Ph.isTuple e || (subT e).isEmpty with
    | true =>
      rw [ca] at o
      have e : bookOk (.tuple [a, q, b, r]) = false := by
        cases a with
        | tuple as =>
          show (ansOk (.tuple as) && match nums? q with | some hs => huesOk hs && (begOk as.length hs b && rowsOk as.length hs (maxI hs + 1) r) | none => false) = false
          cases ha : ansOk (.tuple as) with
          | false => rfl
          | true =>
            have ha2 : (decide (0 < as.length) && as.all Ph.isBool) = true := ha
            rw [Bool.and_eq_true] at ha2
            have ap : 0 < as.length := of_decide_eq_true ha2.1
            cases cq : nums? q with
            | none => rfl
            | some hs =>
              have eq := nums_eq cq
              subst eq
              show (true && (huesOk hs && (begOk as.length hs b && rowsOk as.length hs (maxI hs + 1) r))) = false
              rw [Bool.true_and]
              cases hu : huesOk hs with
              | false => rfl
              | true =>
                rw [Bool.true_and]
                have hu2 := hu
                unfold huesOk at hu2
                rw [Bool.and_eq_true, Bool.and_eq_true] at hu2
                have hp : 0 < hs.length := of_decide_eq_true hu2.2.1
                cases hb : begOk as.length hs b with
                | false => rfl
                | true =>
                  rw [Bool.true_and]
                  have b2 : Ph.isTuple b = true ∧ (subT b).isEmpty = false := by
                    unfold begOk at hb
                    split at hb
                    · exact ⟨rfl, rfl⟩
                    · cases hb
                  cases r with
                  | tuple ts =>
                    have : ts.isEmpty = true := by
                      have aE : as.isEmpty = false := by
                        cases as with
                        | nil => exact absurd ap (Nat.lt_irrefl 0)
                        | cons x y => rfl
                      have hE : (hs.map PyData.int).isEmpty = false := by
                        cases hs with
                        | nil => exact absurd hp (Nat.lt_irrefl 0)
                        | cons x y => rfl
                      simp only [List.any_cons, List.any_nil, Bool.or_false, b2.1, b2.2] at ca
                      have ca : ((false || as.isEmpty) || ((false || (hs.map PyData.int).isEmpty) || ((false || false) || (false || ts.isEmpty)))) = true := ca
                      rw [aE, hE] at ca
                      simpa using ca
                    cases ts with
                    | nil =>
                      show (decide ((0 : Nat) = as.length) && _ && _) = false
                      rw [decide_eq_false (by omega)]; rfl
                    | cons t ts => cases this
                  | _ => rfl
        | _ => rfl
      rw [e]
      exact ifret (b := true) o (fun _ => rfl) rfl fun c => by cases c
    | false =>
      rw [ca] at o
      refine ifret (b := false) o (fun c => by cases c) rfl fun _ => ?_
      refine seq_asg (f := fVar 0) rfl rfl ?_
      have ti : ∀ e ∈ [a, q, b, r], ∃ x xs, e = .tuple (x :: xs) := fun e m => by
        have z := List.any_eq_false.mp ca e m
        cases e with
        | tuple es =>
          cases es with
          | nil => exact absurd rfl z
          | cons x xs => exact ⟨x, xs, rfl⟩
        | _ => exact absurd rfl z
      obtain ⟨a0, as', ea⟩ := ti a (by simp)
      obtain ⟨q0, qs, eq⟩ := ti q (by simp)
      obtain ⟨b0, bs, eb⟩ := ti b (by simp)
      subst ea eb
      generalize has : a0 :: as' = as at *
      have ap : 0 < as.length := by rw [← has]; simp
      have sa := h.2 (.tuple as) (by simp)
      have sq := h.2 q (by simp)
      have sr := h.2 r (by simp)
      have la : as.length ≤ 1000 := shorts_short sa
      show sSeq _ _ [some (.tuple [.tuple as, q, .tuple (b0 :: bs), r]), none, some (.tuple as), some q, some (.tuple (b0 :: bs)), some r] = _
      have w1 := some_ok (ds := [some (.tuple [.tuple as, q, .tuple (b0 :: bs), r]), none, some (.tuple as), some q, some (.tuple (b0 :: bs)), some r]) (q := wkT (fVar 2)) (gt := tgName 1) (p := fNotT (fTest (fIs Ph.isBool (fVar 1)))) (vs := [1]) (w := [some (.tuple [.tuple as, q, .tuple (b0 :: bs), r]), none, some (.tuple as), some q, some (.tuple (b0 :: bs)), some r]) (k := fun e => !Ph.isBool e) (xs := as) rfl (by omega) rfl fun e m => ⟨_, rfl, notT_ok (test_ok rfl)⟩
      have lq : (subT q).length ≤ 1000 := by rw [eq] at sq ⊢; exact shorts_short sq
      have w2 := some_ok (ds := [some (.tuple [.tuple as, q, .tuple (b0 :: bs), r]), none, some (.tuple as), some q, some (.tuple (b0 :: bs)), some r]) (q := wkT (fVar 3)) (gt := tgName 1) (p := fNotT (fTest (fCall 2 F__law_is_number (fCons (fVar 1) (fCons (fC (.int 99)) fNil))))) (vs := [1]) (w := [some (.tuple [.tuple as, q, .tuple (b0 :: bs), r]), none, some (.tuple as), some q, some (.tuple (b0 :: bs)), some r]) (k := fun e => !inR e 99) (xs := subT q) (by show asT q = _; rw [eq]; rfl) (by omega) rfl fun e m => ⟨[some (.tuple [.tuple as, q, .tuple (b0 :: bs), r]), some e, some (.tuple as), some q, some (.tuple (b0 :: bs)), some r], rfl, notT_ok (test_ok (call_ok (n := 2) (F := F__law_is_number) (cons_ok (f := fVar 1) rfl (one_ok (f := fC (.int 99)) rfl)) rfl (lnum_ok e 99)))⟩
      have o2 := orT_ok w1 fun _ => w2
      have bv : bookOk (.tuple [.tuple as, q, .tuple (b0 :: bs), r]) = (ansOk (.tuple as) && match nums? q with | some hs => huesOk hs && (begOk as.length hs (.tuple (b0 :: bs)) && rowsOk as.length hs (maxI hs + 1) r) | none => false) := rfl
      have av : ansOk (.tuple as) = as.all Ph.isBool := by
        show (decide (0 < as.length) && _) = _
        rw [decide_eq_true ap, Bool.true_and]
      rw [bv, av]
      cases c1 : as.any fun e => !Ph.isBool e with
      | true =>
        rw [c1] at o2
        have : as.all Ph.isBool = false := by
          rw [← all_any] at c1
          simpa using c1
        rw [this]
        exact ifret (b := true) o2 (fun _ => rfl) rfl fun c => by cases c
      | false =>
        have ab : as.all Ph.isBool = true := by
          rw [← all_any] at c1
          simpa using c1
        rw [ab, Bool.true_and]
        cases c2 : (subT q).any fun e => !inR e 99 with
        | true =>
          rw [c1, c2] at o2
          have e : (match nums? q with | some hs => huesOk hs && (begOk as.length hs (.tuple (b0 :: bs)) && rowsOk as.length hs (maxI hs + 1) r) | none => false) = false := by
            cases cq : nums? q with
            | none => rfl
            | some hs =>
              have eqq := nums_eq cq
              have low := lo q (by simp [subT]) hs cq
              rw [eqq] at c2
              show (huesOk hs && _) = false
              have : huesOk hs = false := by
                cases hu : huesOk hs with
                | false => rfl
                | true =>
                  unfold huesOk at hu
                  rw [Bool.and_eq_true] at hu
                  have c2 : (hs.map PyData.int).any (fun e => !inR e 99) = true := c2
                  rw [List.any_eq_true] at c2
                  obtain ⟨x, mx, cx⟩ := c2
                  obtain ⟨n, mn, rfl⟩ := List.mem_map.mp mx
                  have g0 := of_decide_eq_true (List.all_eq_true.mp hu.1 n mn)
                  have g1 := low n mn
                  simp [inR] at cx
                  omega
              rw [this]; rfl
          rw [e]
          exact ifret (b := true) o2 (fun _ => rfl) rfl fun c => by cases c
        | false =>
          rw [c1, c2] at o2
          have aq : (subT q).all (fun x => inR x 99) = true := by
            rw [← all_any] at c2
            simpa using c2
          obtain ⟨hs, ehs, rng⟩ := allIn aq
          have eqh : q = hT hs := by rw [eq] at ehs ⊢; exact congrArg PyData.tuple ehs
          subst eqh
          have hne : hs ≠ [] := fun z => by rw [z] at eq; cases eq
          have hp : 0 < hs.length := List.length_pos_iff.mpr hne
          have hh : hs.length ≤ 1000 := by have z : (hs.map PyData.int).length ≤ 1000 := lq; rwa [List.length_map] at z
          refine ifret (b := false) o2 (fun c => by cases c) rfl fun _ => ?_
          rw [nums_tup]
          show sSeq _ _ [some (.tuple [.tuple as, hT hs, .tuple (b0 :: bs), r]), none, some (.tuple as), some (hT hs), some (.tuple (b0 :: bs)), some r] = some (.rt (.bool (huesOk hs && (begOk as.length hs (.tuple (b0 :: bs)) && rowsOk as.length hs (maxI hs + 1) r))))
          have fin : (huesOk hs && (begOk as.length hs (.tuple (b0 :: bs)) && rowsOk as.length hs (maxI hs + 1) r)) = (begOk as.length hs (.tuple (b0 :: bs)) && lrowsOk as.length hs r) := by
            rw [← rows_same as.length hs r ap hne fun x m => (rng x m).1]
            cases huesOk hs <;> cases begOk as.length hs (.tuple (b0 :: bs)) <;> rfl
          rw [fin]
          have l0 : fCB hLen (fCons (fVar 2) fNil) [some (.tuple [.tuple as, hT hs, .tuple (b0 :: bs), r]), none, some (.tuple as), some (hT hs), some (.tuple (b0 :: bs)), some r] = some (.int as.length) := cb_ok (one_ok (f := fVar 2) rfl) rfl
          have k1 := call_ok (ds := [some (.tuple [.tuple as, hT hs, .tuple (b0 :: bs), r]), none, some (.tuple as), some (hT hs), some (.tuple (b0 :: bs)), some r]) (n := 2) (F := F__law_is_line) (cons_ok (f := fVar 4) rfl (one_ok (f := fC (.int 2)) rfl)) rfl (lline_ok (.tuple (b0 :: bs)) 2)
          cases cb : tupOf (.tuple (b0 :: bs)) 2 with
          | false =>
            rw [cb] at k1
            have e : begOk as.length hs (.tuple (b0 :: bs)) = false := by
              unfold begOk
              split
              · rename_i f g heq
                cases heq
                cases cb
              · rfl
            rw [e]
            exact ifret (b := true) (orT_ok (b := false) (notT_ok (test_ok k1)) fun c => by cases c) (fun _ => rfl) rfl fun c => by cases c
          | true =>
            rw [cb] at k1
            obtain ⟨es2, e2, hl2⟩ := tupOf_len (n := 2) cb
            cases e2
            obtain ⟨f, g, e3⟩ := len2 hl2
            rw [e3] at k1 ⊢
            have i0 := op_ok (show fVar 4 [some (.tuple [.tuple as, hT hs, .tuple [f, g], r]), none, some (.tuple as), some (hT hs), some (.tuple [f, g]), some r] = some (.tuple [f, g]) from rfl) (show fC (.int 0) _ = some (.int 0) from rfl) (ix_lit 0 (es := [f, g]) rfl)
            have i1 := op_ok (show fVar 4 [some (.tuple [.tuple as, hT hs, .tuple [f, g], r]), none, some (.tuple as), some (hT hs), some (.tuple [f, g]), some r] = some (.tuple [f, g]) from rfl) (show fC (.int 1) _ = some (.int 1) from rfl) (ix_lit 1 (es := [f, g]) rfl)
            rw [e3] at l0
            have k2 := test_ok (call_ok (n := 2) (F := F__law_is_number) (cons_ok i0 (one_ok l0)) rfl (lnum_ok f as.length))
            have k3 := test_ok (call_ok (n := 2) (F := F__law_is_number) (cons_ok i1 (one_ok (hT_len hs _ 3 rfl))) rfl (lnum_ok g hs.length))
            have oo := orT_ok (notT_ok (test_ok k1)) fun _ => orT_ok (notT_ok k2) fun _ => notT_ok k3
            have bev : begOk as.length hs (.tuple [f, g]) = (inR f as.length && hueOf hs 0 g) := rfl
            rw [bev]
            cases cf : inR f as.length with
            | false => rw [cf] at oo; exact ifret (b := true) oo (fun _ => rfl) rfl fun c => by cases c
            | true =>
              cases cg : inR g hs.length with
              | false =>
                rw [cf, cg] at oo
                have e : hueOf hs 0 g = false := by
                  cases g with
                  | int i => have cg : (decide (0 ≤ i) && decide (i < (hs.length : Int))) = false := cg; show (decide (0 ≤ i) && decide (i < (hs.length : Int)) && decide (hs.getD i.toNat 0 = 0)) = false; rw [cg]; rfl
                  | _ => rfl
                rw [e]
                exact ifret (b := true) oo (fun _ => rfl) rfl fun c => by cases c
              | true =>
                rw [cf, cg] at oo
                refine ifret (b := false) oo (fun c => by cases c) rfl fun _ => ret_ok ?_
                cases g with
                | int i =>
                  have cg2 : (decide (0 ≤ i) && decide (i < (hs.length : Int))) = true := cg
                  rw [Bool.and_eq_true] at cg2
                  have z := op_ok (op_ok (f := fVar 3) (g := fOp gIxT (fVar 4) (fC (.int 1))) (show fVar 3 _ = some (hT hs) from rfl) i1 (at_hue hs (of_decide_eq_true cg2.1) (of_decide_eq_true cg2.2))) (g := fC (.int 0)) (show fC (.int 0) _ = some (.int 0) from rfl) (show gEqI _ _ = some (.bool (decide (hs.getD i.toNat 0 = 0))) from rfl)
                  rw [and_ok z fun _ => call_ok (n := 3) (F := F__law_rows_right) (cons_ok (f := fVar 2) rfl (cons_ok (f := fVar 3) rfl (one_ok (f := fVar 5) rfl))) rfl (lrows_ok r as hs ap hp hh sr)]
                  have e : hueOf hs 0 (.int i) = decide (hs.getD i.toNat 0 = 0) := by
                    show (decide (0 ≤ i) && decide (i < (hs.length : Int)) && decide (hs.getD i.toNat 0 = 0)) = _
                    rw [cg2.1, cg2.2]; rfl
                  rw [e]; rfl
                | _ => cases cg
end K13
namespace K13
open PySem Ph
def stOk (many nh : Nat) (d : PyData) : Bool := match d with
  | .tuple [f, .tuple es] => inR f many && (!es.isEmpty && es.all fun x => inR x nh)
  | _ => false
theorem stOk2 (many nh : Nat) (f h : PyData) : stOk many nh (.tuple [f, h]) = (inR f many && (Ph.isTuple h && (!(subT h).isEmpty && (subT h).all fun x => inR x nh))) := by
  cases h <;> simp [stOk, Ph.isTuple, subT]
theorem stOk_not {many nh : Nat} {d : PyData} (h : tupOf d 2 = false) : stOk many nh d = false := by
  unfold stOk
  split
  · cases h
  · rfl
theorem numsIn (d : PyData) (n : Int) (t : Ph.isTuple d = true) : (match nums? d with | some ns => ns.all fun x => decide (0 ≤ x) && decide (x ≤ n - 1) | none => false) = (subT d).all fun x => inR x n := by
  cases d with
  | tuple es =>
    cases c : nums? (.tuple es) with
    | some ns =>
      have e := nums_eq c
      cases e
      show (ns.all _) = (ns.map PyData.int).all _
      rw [ints_all]
      congr 1
      funext x
      congr 1
      exact decide_eq_decide.mpr (by omega)
    | none =>
      show false = es.all _
      cases ca : es.all fun x => inR x n with
      | false => rfl
      | true =>
        obtain ⟨ns, e, _⟩ := allIn ca
        subst e
        have z : intsOf (ns.map PyData.int) = none := c
        rw [intsOf_map] at z
        cases z
  | _ => cases t
section
variable (as : List PyData) (hs : List Int) (b r d : PyData)
abbrev bk (as : List PyData) (hs : List Int) (b r : PyData) : PyData := .tuple [.tuple as, hT hs, b, r]
theorem stand_ok (h : shorts 2 d) : Ans (F_is_stand [bk as hs b r, d]) (stOk as.length hs.length d) := by
  unfold F_is_stand
  refine def_s (?_ : sSeq _ _ _ = _)
  have h1 := call_ok (ds := startD N_is_stand [bk as hs b r, d]) (n := 2) (F := F_is_tuple_of) (cons_ok (f := fVar 1) rfl (one_ok (f := fC (.int 2)) rfl)) rfl (tof_ok d 2)
  cases ct : tupOf d 2 with
  | false =>
    rw [ct] at h1
    rw [stOk_not ct]
    exact ifret (b := true) (orT_ok (b := false) (notT_ok (test_ok h1)) fun c => by cases c) (fun _ => rfl) rfl fun c => by cases c
  | true =>
    rw [ct] at h1
    obtain ⟨es, rfl, hl⟩ := tupOf_len (n := 2) ct
    obtain ⟨f, g, rfl⟩ := len2 hl
    have i0 := op_ok (show fVar 1 (startD N_is_stand [bk as hs b r, .tuple [f, g]]) = some (.tuple [f, g]) from rfl) (show fC (.int 0) _ = some (.int 0) from rfl) (ix_lit 0 (es := [f, g]) rfl)
    have i1 := op_ok (show fVar 1 (startD N_is_stand [bk as hs b r, .tuple [f, g]]) = some (.tuple [f, g]) from rfl) (show fC (.int 1) _ = some (.int 1) from rfl) (ix_lit 1 (es := [f, g]) rfl)
    have b0 := op_ok (show fVar 0 (startD N_is_stand [bk as hs b r, .tuple [f, g]]) = some (bk as hs b r) from rfl) (show fC (.int 0) _ = some (.int 0) from rfl) (ix_lit 0 (es := [.tuple as, hT hs, b, r]) rfl)
    have b1 := op_ok (show fVar 0 (startD N_is_stand [bk as hs b r, .tuple [f, g]]) = some (bk as hs b r) from rfl) (show fC (.int 1) _ = some (.int 1) from rfl) (ix_lit 1 (es := [.tuple as, hT hs, b, r]) rfl)
    have l0 : fCB hLen (fCons (fOp gIxT (fVar 0) (fC (.int 0))) fNil) (startD N_is_stand [bk as hs b r, .tuple [f, g]]) = some (.int as.length) := cb_ok (one_ok b0) rfl
    have l1 : fCB hLen (fCons (fOp gIxT (fVar 0) (fC (.int 1))) fNil) (startD N_is_stand [bk as hs b r, .tuple [f, g]]) = some (.int hs.length) := cb_ok (one_ok b1) (by show some (PyData.int (hs.map PyData.int).length) = _; rw [List.length_map])
    have k2 := test_ok (call_ok (n := 2) (F := F__is_flag) (cons_ok i0 (one_ok l0)) rfl (flag_ok f as.length))
    have oo := orT_ok (notT_ok (test_ok h1)) fun _ => notT_ok k2
    rw [stOk2]
    cases cf : inR f as.length with
    | false => rw [cf] at oo; exact ifret (b := true) oo (fun _ => rfl) rfl fun c => by cases c
    | true =>
      rw [cf] at oo
      refine ifret (b := false) oo (fun c => by cases c) rfl fun _ => ret_ok ?_
      have sg : short g := shorts_short (h.2 g (by simp))
      have k3 := call_ok (n := 3) (F := F_has_numbers_between) (cons_ok i1 (cons_ok (f := fC (.int 0)) rfl (one_ok (op_ok (k := gSub) l1 (show fC (.int 1) _ = some (.int 1) from rfl) (show gSub _ _ = some (.int ((hs.length : Int) - 1)) from rfl))))) rfl (between_ok g 0 (hs.length - 1) sg)
      cases tg : Ph.isTuple g with
      | false =>
        have e : nums? g = none := by cases g <;> first | rfl | cases tg
        rw [e] at k3
        rw [and_ok (b := false) k3 fun c => by cases c]
        rfl
      | true =>
        replace k3 := k3.trans (congrArg (fun b => some (PyData.bool b)) (numsIn g hs.length tg))
        have k4 : fOp gGt (fCB hLen (fCons (fOp gIxT (fVar 1) (fC (.int 1))) fNil)) (fC (.int 0)) (startD N_is_stand [bk as hs b r, .tuple [f, g]]) = some (.bool (decide (((subT g).length : Int) > 0))) := op_ok (x := .int (subT g).length) (y := .int 0) (cb_ok (one_ok i1) (by cases g <;> first | rfl | cases tg)) rfl rfl
        rw [and_ok k3 fun _ => k4]
        have e : decide (((subT g).length : Int) > 0) = !(subT g).isEmpty := by
          cases subT g with
          | nil => rfl
          | cons x xs => exact decide_eq_true (by rw [List.length_cons]; omega)
        rw [e, Bool.true_and, Bool.true_and, Bool.and_comm]
theorem lstand_ok (h : shorts 2 d) (sh : ∀ e ∈ subT d, SeqAt.shaped e = true) : Ans (F__law_is_stand [bk as hs b r, d]) (stOk as.length hs.length d) := by
  unfold F__law_is_stand
  refine def_s (?_ : sSeq _ _ _ = _)
  have h1 := call_ok (ds := startD N__law_is_stand [bk as hs b r, d]) (n := 2) (F := F__law_is_line) (cons_ok (f := fVar 1) rfl (one_ok (f := fC (.int 2)) rfl)) rfl (lline_ok d 2)
  cases ct : tupOf d 2 with
  | false =>
    rw [ct] at h1
    rw [stOk_not ct]
    exact ifret (b := true) (orT_ok (b := false) (notT_ok (test_ok h1)) fun c => by cases c) (fun _ => rfl) rfl fun c => by cases c
  | true =>
    rw [ct] at h1
    obtain ⟨es, rfl, hl⟩ := tupOf_len (n := 2) ct
    obtain ⟨f, g, rfl⟩ := len2 hl
    have i0 := op_ok (show fVar 1 (startD N__law_is_stand [bk as hs b r, .tuple [f, g]]) = some (.tuple [f, g]) from rfl) (show fC (.int 0) _ = some (.int 0) from rfl) (ix_lit 0 (es := [f, g]) rfl)
    have i1 := op_ok (show fVar 1 (startD N__law_is_stand [bk as hs b r, .tuple [f, g]]) = some (.tuple [f, g]) from rfl) (show fC (.int 1) _ = some (.int 1) from rfl) (ix_lit 1 (es := [f, g]) rfl)
    have b0 := op_ok (show fVar 0 (startD N__law_is_stand [bk as hs b r, .tuple [f, g]]) = some (bk as hs b r) from rfl) (show fC (.int 0) _ = some (.int 0) from rfl) (ix_lit 0 (es := [.tuple as, hT hs, b, r]) rfl)
    have l0 : fCB hLen (fCons (fOp gIxT (fVar 0) (fC (.int 0))) fNil) (startD N__law_is_stand [bk as hs b r, .tuple [f, g]]) = some (.int as.length) := cb_ok (one_ok b0) rfl
    have k2 := test_ok (call_ok (n := 2) (F := F__law_is_number) (cons_ok i0 (one_ok l0)) rfl (lnum_ok f as.length))
    have k3 : fTest (fIs Ph.isTuple (fOp gIxT (fVar 1) (fC (.int 1)))) (startD N__law_is_stand [bk as hs b r, .tuple [f, g]]) = some (Ph.isTuple g) := test_ok (by
      show (fOp gIxT (fVar 1) (fC (.int 1)) _).bind _ = _
      rw [i1]; rfl)
    have k4 : Ph.isTuple g = true → fTest (fOp gEqD (fOp gIxT (fVar 1) (fC (.int 1))) (fTup fNil)) (startD N__law_is_stand [bk as hs b r, .tuple [f, g]]) = some (subT g).isEmpty := fun tg => by
      cases g with
      | tuple es =>
        refine test_ok (op_ok i1 (show fTup fNil _ = some (.tuple []) from rfl) ?_)
        unfold gEqD
        rw [if_pos ⟨sh (.tuple es) (by simp [subT]), shaped_tup []⟩]
        cases es <;> simp [PyData.eqv, PyData.eqvAll, subT]
      | _ => cases tg
    rw [stOk2]
    have oo : fOrT (fNotT (fTest (fCall 2 F__law_is_line (fCons (fVar 1) (fCons (fC (.int 2)) fNil))))) (fOrT (fNotT (fTest (fCall 2 F__law_is_number (fCons (fOp gIxT (fVar 1) (fC (.int 0))) (fCons (fCB hLen (fCons (fOp gIxT (fVar 0) (fC (.int 0))) fNil)) fNil))))) (fOrT (fNotT (fTest (fIs Ph.isTuple (fOp gIxT (fVar 1) (fC (.int 1)))))) (fTest (fOp gEqD (fOp gIxT (fVar 1) (fC (.int 1))) (fTup fNil))))) (startD N__law_is_stand [bk as hs b r, .tuple [f, g]]) = some (!true || (!inR f as.length || (!Ph.isTuple g || (subT g).isEmpty))) :=
      orT_ok (notT_ok (test_ok h1)) fun _ => orT_ok (notT_ok k2) fun _ => orT_ok (notT_ok k3) fun c => k4 (by simpa using c)
    cases cc : (!inR f as.length || (!Ph.isTuple g || (subT g).isEmpty)) with
    | true =>
      rw [cc] at oo
      have e : (inR f as.length && (Ph.isTuple g && (!(subT g).isEmpty && (subT g).all fun x => inR x hs.length))) = false := by
        revert cc
        cases inR f as.length <;> cases Ph.isTuple g <;> cases (subT g).isEmpty <;> simp
      rw [e]
      exact ifret (b := true) oo (fun _ => rfl) rfl fun c => by cases c
    | false =>
      rw [cc] at oo
      refine ifret (b := false) oo (fun c => by cases c) rfl fun _ => ret_ok ?_
      have e : (inR f as.length && (Ph.isTuple g && (!(subT g).isEmpty && (subT g).all fun x => inR x hs.length))) = (subT g).all fun x => inR x hs.length := by
        revert cc
        cases inR f as.length <;> cases Ph.isTuple g <;> cases (subT g).isEmpty <;> simp
      have tg : Ph.isTuple g = true := by
        revert cc
        cases inR f as.length <;> cases Ph.isTuple g <;> cases (subT g).isEmpty <;> simp
      rw [e]
      have sg := shorts_short (h.2 g (by simp))
      have lg : (subT g).length ≤ 1000 := by cases g <;> first | exact sg | cases tg
      have b1 : ∀ x, fOp gIxT (fVar 0) (fC (.int 1)) [some (bk as hs b r), some (.tuple [f, g]), x] = some (hT hs) := fun x => op_ok (show fVar 0 _ = some (bk as hs b r) from rfl) (show fC (.int 1) _ = some (.int 1) from rfl) (ix_lit 1 (es := [.tuple as, hT hs, b, r]) rfl)
      have l1 : ∀ x, fCB hLen (fCons (fOp gIxT (fVar 0) (fC (.int 1))) fNil) [some (bk as hs b r), some (.tuple [f, g]), x] = some (.int hs.length) := fun x => cb_ok (one_ok (b1 x)) (by show some (PyData.int (hs.map PyData.int).length) = _; rw [List.length_map])
      have z := none_ok (ds := startD N__law_is_stand [bk as hs b r, .tuple [f, g]]) (q := wkT (fOp gIxT (fVar 1) (fC (.int 1)))) (gt := tgName 2) (p := fNotT (fTest (fCall 2 F__law_is_number (fCons (fVar 2) (fCons (fCB hLen (fCons (fOp gIxT (fVar 0) (fC (.int 1))) fNil)) fNil))))) (vs := [2]) (w := [some (bk as hs b r), some (.tuple [f, g]), none]) (k := fun e => !inR e hs.length) (xs := subT g) (by
        show (fOp gIxT (fVar 1) (fC (.int 1)) _).bind _ = _
        rw [i1]
        cases g <;> first | rfl | cases tg) (by omega) rfl fun e m => ⟨[some (bk as hs b r), some (.tuple [f, g]), some e], rfl, notT_ok (test_ok (call_ok (n := 2) (F := F__law_is_number) (cons_ok (f := fVar 2) rfl (one_ok (l1 _))) rfl (lnum_ok e hs.length)))⟩
      rw [z]
      congr 2
      congr 1
      funext x
      simp
end
end K13
namespace Ph
open PySem PySem.Spec PyProof.Rows L2
section
variable {K : PySem.W.Frag} {B : Hp} {o ps : List Addr} {M M1 M2 : ML} {σ : L2.St} {H H' : Hp} {ds ds1 ds2 : List (Option PyData)} {ta tb te : TE} {d e : PyData}
/-- a mutable is forgotten -/
theorem MS.lose (s : MS K B o M ps σ H ds) (k : Nat) : MS K B o (M.eraseIdx k) (ps.eraseIdx k) σ H ds := by
  have g : Ex (hide H (ps ++ o)) (hide H (ps.eraseIdx k ++ o)) := fun a x h => by
    obtain ⟨c, h⟩ := hide_some h
    rw [hide_out fun m => c ?_]
    · exact h
    · rcases List.mem_append.mp m with m | m
      · exact List.mem_append_left _ (List.mem_of_mem_eraseIdx m)
      · exact List.mem_append_right _ m
  exact ⟨s.ex, s.ow, s.en.mono g, (s.mu.ex (Same.refl _) g).drop k, s.nd.sublist (List.eraseIdx_sublist ..)⟩
end
end Ph
namespace Ph
open PySem PySem.Spec PyProof.Rows L2
end Ph
namespace Ph
open PySem PySem.Spec PyProof.Rows L2
def UC (n : Nat) (x : HO) : Prop := ∃ b c m : Int, x = .lst [.int b, .int c, .int m] ∧ 0 ≤ b ∧ 0 ≤ c ∧ c < 2 ^ 63 ∧ 0 ≤ m ∧ m ≤ n
theorem UC.mono {n k : Nat} {x : HO} (h : UC n x) (l : n ≤ k) : UC k x := by
  obtain ⟨b, c, m, e, h1, h2, h3, h4, h5⟩ := h
  exact ⟨b, c, m, e, h1, h2, h3, h4, by omega⟩
theorem urn_uc {H : Hp} {u : Addr} {n : Nat} (h : Urn H u n) : ∃ x, H u = some x ∧ UC n x := by
  obtain ⟨b, c, m, e, r⟩ := h
  exact ⟨_, e, b, c, m, rfl, r⟩
theorem uc_urn {H : Hp} {u : Addr} {n : Nat} {x : HO} (e : H u = some x) (h : UC n x) : Urn H u n := by
  obtain ⟨b, c, m, rfl, r⟩ := h
  exact ⟨b, c, m, e, r⟩
abbrev XS (M : ML) (u : Addr) (x : HO) : ML := M ++ [(0, .f u x)]
def XT (K : PySem.W.Frag) (B : Hp) (u : Addr) (M : ML) (ps : List Addr) (σ : L2.St) (H : Hp) (ds : List (Option PyData)) (n : Nat) : Prop := ∃ x, MS K B [] (XS M u x) ps σ H ds ∧ UC n x
section
variable {K : PySem.W.Frag} {B : Hp} {u : Addr} {M M' : ML} {ps : List Addr} {σ : L2.St} {H H2 : Hp} {ds : List (Option PyData)} {n n2 k l : Nat} {te : TE} {d : PyData} {R : PyData → Prop}
theorem XT.up (s : XT K B u M ps σ H ds n) (h : n ≤ n2) : XT K B u M ps σ H ds n2 := by
  obtain ⟨x, s, c⟩ := s
  exact ⟨x, s, c.mono h⟩
theorem XT.src {x : HO} (s : MS K B [] (XS M u x) ps σ H ds) : ps[M.length]? = some u ∧ σ[0]? = some (some (.ref u)) ∧ H u = some x ∧ B u = none := by
  obtain ⟨p, y, h1, h2, h3, ob, b, _⟩ := s.mu.at (k := M.length) (i := 0) (c := .f u x) (by
    show (M ++ [(0, MC.f u x)])[M.length]? = _
    rw [List.getElem?_append_right (Nat.le_refl _), Nat.sub_self]
    rfl)
  cases ob
  exact ⟨h1, h2, h3, b⟩
theorem XT.at (s : XT K B u M ps σ H ds n) : At H (ps ++ []) u 0 σ n := by
  obtain ⟨x, s, c⟩ := s
  obtain ⟨h1, h2, h3, _⟩ := XT.src s
  exact ⟨List.mem_append_left _ (List.mem_of_getElem? h1), h2, uc_urn h3 c⟩
theorem XT.owA (s : XT K B u M ps σ H ds n) : Owned H (ps ++ []) := by
  obtain ⟨x, s, c⟩ := s
  exact s.owA
theorem XT.en (s : XT K B u M ps σ H ds n) : En K (hide H (ps ++ [])) σ ds := by
  obtain ⟨x, s, c⟩ := s
  exact s.en
/-- behind a draw -/
theorem XT.draw (s : XT K B u M ps σ H ds n) (D : Dr H H2 (ps ++ []) u n2) : XT K B u M ps σ H2 ds n2 := by
  obtain ⟨x, s, c⟩ := s
  obtain ⟨h1, h2, h3, hb⟩ := XT.src s
  obtain ⟨x', e', c'⟩ := urn_uc D.urn
  have as : Aside x' := by
    obtain ⟨_, _, _, rfl, _⟩ := c'
    exact True.intro
  have mu1 := (s.mu.upd (k := M.length) (i := 0) (e0 := .f u x) (p := u) (x := x') (c := .f u x') (.f as) s.nd (by
    show (M ++ [(0, MC.f u x)])[M.length]? = _
    rw [List.getElem?_append_right (Nat.le_refl _), Nat.sub_self]
    rfl) h1)
  have es : (XS M u x).set M.length (0, .f u x') = XS M u x' := by
    show (M ++ [(0, MC.f u x)]).set M.length _ = _
    rw [List.set_append_right _ _ (Nat.le_refl _), Nat.sub_self]
    rfl
  rw [es] at mu1
  refine ⟨x', ⟨fun a y h => ?_, own0, s.en.mono D.ex, mu1.keep (fun a ha => ?_) D.ex, s.nd⟩, c'⟩
  · have z := s.ex a y h
    rw [hide_nil] at z
    have na : a ∉ ps ++ [] := fun m => by
      rw [List.append_nil] at m
      obtain ⟨_, _, _, b, _⟩ := s.mu.own a m
      rw [h] at b
      cases b
    have q := D.ex a y (by rw [hide_out na]; exact z)
    rw [hide_nil]
    exact (hide_some q).2
  · by_cases c : a = u
    · rw [c, upd_same, e']
    · rw [upd_ne c, D.same a (List.mem_append_left _ ha) c]
def XvN (K : PySem.W.Frag) (u : Addr) (k : Nat) (ts : TS) (M : ML) (ds : List (Option PyData)) (S : ML → List (Option PyData) → Prop) : Prop :=
  ∀ B (D : Ends) ps σ H n, XT K B u M ps σ H ds n → n + k ≤ 100000 → (∀ M' ds' σ' H' ps', S M' ds' → XT K B u M' ps' σ' H' ds' (n + k) → D.nx σ' H') → ts D σ H
def XvR (K : PySem.W.Frag) (u : Addr) (k : Nat) (ts : TS) (M : ML) (ds : List (Option PyData)) (R : PyData → Prop) : Prop :=
  ∀ B (D : Ends) ps σ H n, XT K B u M ps σ H ds n → n + k ≤ 100000 → (∀ v d H', R d → Ex B H' → Urn H' u (n + k) → DD K (hide H' [u]) v d → D.rt v H') → ts D σ H
def XbB (K : PySem.W.Frag) (u : Addr) (k : Nat) (tt : TT) (M : ML) (ds : List (Option PyData)) (P : Bool → Prop) : Prop :=
  ∀ B ps σ H n, XT K B u M ps σ H ds n → n + k ≤ 100000 → ∀ Q : Bool → Hp → Prop, (∀ b H2, P b → XT K B u M ps σ H2 ds (n + k) → Q b H2) → tt σ H Q
theorem xn_pure {ts : TS} {ds' : List (Option PyData)} (h : ∀ x, MvN K [] ts (XS M u x) ds (XS M' u x) ds') : XvN K u 0 ts M ds (fun a b => a = M' ∧ b = ds') := fun B D ps σ H n s hn q => by
  obtain ⟨x, s, c⟩ := s
  exact h x B D ps σ H s fun σ' H' ps' s' => q _ _ σ' H' ps' ⟨rfl, rfl⟩ ⟨x, s', c⟩
theorem xn_seq {t t2 : TS} {S S2 : ML → List (Option PyData) → Prop} (h : XvN K u k t M ds S) (h2 : ∀ M' ds', S M' ds' → XvN K u l t2 M' ds' S2) : XvN K u (k + l) (tSeq t t2) M ds S2 := fun B D ps σ H n s hn q =>
  h B _ ps σ H n s (by omega) fun M' ds' σ' H' ps' hs s' => h2 M' ds' hs B D ps' σ' H' (n + k) s' (by omega) fun M2 d2 σ2 H2 p2 q2 s2 => q M2 d2 σ2 H2 p2 q2 (by rw [← Nat.add_assoc]; exact s2)
theorem xr_seq {t t2 : TS} {S : ML → List (Option PyData) → Prop} (h : XvN K u k t M ds S) (h2 : ∀ M' ds', S M' ds' → XvR K u l t2 M' ds' R) : XvR K u (k + l) (tSeq t t2) M ds R := fun B D ps σ H n s hn q =>
  h B _ ps σ H n s (by omega) fun M' ds' σ' H' ps' hs s' => h2 M' ds' hs B D ps' σ' H' (n + k) s' (by omega) fun v d H2 r e U x => q v d H2 r e (by rw [← Nat.add_assoc]; exact U) x
theorem xn_imp {t : TS} {S S2 : ML → List (Option PyData) → Prop} (h : XvN K u k t M ds S) (i : ∀ M' ds', S M' ds' → S2 M' ds') (l2 : k ≤ l) : XvN K u l t M ds S2 := fun B D ps σ H n s hn q =>
  h B D ps σ H n s (by omega) fun M' ds' σ' H' ps' hs s' => q M' ds' σ' H' ps' (i _ _ hs) (s'.up (by omega))
theorem xr_more {t : TS} (h : XvR K u k t M ds R) (l2 : k ≤ l) : XvR K u l t M ds R := fun B D ps σ H n s hn q =>
  h B D ps σ H n s (by omega) fun v d H' r e U x => q v d H' r e (U.mono (by omega)) x
/-- x = e, drawn -/
theorem xn_set {i : Nat} (h : ∀ O, EvU K O u 0 te ds k R) (hi : ∀ m ∈ M, m.1 ≠ i) (h0 : i ≠ 0) : XvN K u k (tAsg te (gName i)) M ds (fun M' ds' => M' = M ∧ ∃ d, R d ∧ ds' = ds.set i (some d)) := fun B D ps σ H n s hn q =>
  h (ps ++ []) σ H n s.en s.owA s.at hn _ fun v d H2 r Dr x => by
    obtain ⟨y, s2, c⟩ := s.draw Dr
    refine q M _ _ H2 ps ⟨rfl, d, r, rfl⟩ ⟨y, s2.set x fun m hm => ?_, c⟩
    rcases List.mem_append.mp hm with hm | hm
    · exact hi m hm
    · rw [List.mem_singleton.mp hm]
      exact Ne.symm h0
theorem xb_pure {t : TT} {b : Bool} (h : ∀ x, EbM K [] (XS M u x) t ds b) : XbB K u 0 t M ds (fun c => c = b) := fun B ps σ H n s hn Q q => by
  obtain ⟨x, s, c⟩ := s
  exact h x B ps σ H s Q fun H2 s2 e => q b H2 rfl ⟨x, s2, c⟩
theorem xb_draw {P : Bool → Prop} (h : ∀ O, EvU K O u 0 te ds k (fun d => ∃ b, d = .bool b ∧ P b)) : XbB K u k (tTest te) M ds P := fun B ps σ H n s hn Q q =>
  h (ps ++ []) σ H n s.en s.owA s.at hn _ fun v d H2 r Dr x => by
    obtain ⟨b, rfl, p⟩ := r
    exact ⟨b, dd_bool x, q b H2 p (s.draw Dr)⟩
theorem xb_or {t t2 : TT} {P P2 P3 : Bool → Prop} (h : XbB K u k t M ds P) (h2 : P false → XbB K u l t2 M ds P2) (p1 : P true → P3 true) (p2 : ∀ b, P false → P2 b → P3 b) : XbB K u (k + l) (tOr t t2) M ds P3 := fun B ps σ H n s hn Q q =>
  h B ps σ H n s (by omega) _ fun b H2 p s2 => by
    cases b with
    | true =>
      refine iteT ?_
      exact q true H2 (p1 p) (s2.up (by omega))
    | false =>
      refine iteF ?_
      exact h2 p B ps σ H2 (n + k) s2 (by omega) Q fun b H3 q3 s3 => q b H3 (p2 b p q3) (by rw [← Nat.add_assoc]; exact s3)
theorem xr_ret (h : ∀ x, EvD K [] te (fill ds (XS M u x)) d) (f : Fz d) (r : R d) : XvR K u 0 (tRet te) M ds R := fun B D ps σ H n s hn q => by
  obtain ⟨x, s, c⟩ := s
  obtain ⟨h1, h2, h3, hb⟩ := XT.src s
  refine h x σ H s.full s.ow _ fun v H2 e2 W2 y => ?_
  have U := uc_urn (e2 _ _ h3) c
  obtain ⟨m, f⟩ := f
  have ex := s.ex
  rw [hide_nil] at ex
  exact q v d H2 r (ex.trans e2) U (dd_fz (tk_hide (urn_own U)) m f y)
/-- the entry of a def that draws -/
theorem su_x {t : TS} (h : XvR K u k t [] ds R) (h0 : ds[0]? = some none) : SrU K [u] u 0 t ds k R := fun D σ H n E W A hn q => by
  obtain ⟨x, e, c⟩ := urn_uc A.urn
  have as : Aside x := by
    obtain ⟨_, _, _, rfl, _⟩ := c
    exact True.intro
  refine h (hide H [u]) D [u] σ H n ⟨x, ⟨by rw [hide_nil]; exact hide_ex, own0, by rw [List.append_nil]; exact E, .cons A.slot e (.f as) (hide_in (by simp)) (by simp) .nil, List.nodup_cons.mpr ⟨by simp, List.nodup_nil⟩⟩, c⟩ hn fun v d H' r ex U y => ?_
  refine q v d H' r ⟨fun a z hz => ?_, urn_own U, fun a ha na => absurd (by simpa using ha) na, U⟩ y
  obtain ⟨na, _⟩ := hide_some hz
  rw [hide_out na]
  exact ex a z hz
end
end Ph
namespace Ph
open PySem PySem.Spec PyProof.Rows L2
section
variable {K : PySem.W.Frag} {B : Hp} {o : List Addr} {u : Addr} {M M' : ML} {ps : List Addr} {σ : L2.St} {H H2 : Hp} {ds : List (Option PyData)} {n n2 k l : Nat} {te ta tb ti : TE} {d e1 e2 : PyData} {R : PyData → Prop}
/-- x, y = two drawn ones -/
theorem xn_par {i j : Nat} {t : TA} {S : PyData → PyData → Prop} (h : ∀ O, EvAU K O u 0 t ds k (fun es => ∃ a b, es = [a, b] ∧ S a b)) (hi : ∀ m ∈ M, m.1 ≠ i) (hj : ∀ m ∈ M, m.1 ≠ j) (i0 : i ≠ 0) (j0 : j ≠ 0) :
    XvN K u k (tPar i j t) M ds (fun M' ds' => M' = M ∧ ∃ a b, S a b ∧ ds' = (ds.set i (some a)).set j (some b)) := fun B D ps σ H n s hn q =>
  h (ps ++ []) σ H n s.en s.owA s.at hn _ fun vs es H1 r Dr xs => by
    obtain ⟨a, b, rfl, sab⟩ := r
    obtain ⟨y, s1, c⟩ := s.draw Dr
    cases xs with
    | cons x1 t1 =>
      cases t1 with
      | cons x2 t2 =>
        cases t2
        have all : ∀ {z : Nat}, (∀ m ∈ M, m.1 ≠ z) → z ≠ 0 → ∀ m ∈ XS M u y, m.1 ≠ z := fun {z} hz z0 m hm => by
          rcases List.mem_append.mp hm with hm | hm
          · exact hz m hm
          · rw [List.mem_singleton.mp hm]
            exact Ne.symm z0
        exact ⟨_, _, rfl, q M _ _ H1 ps ⟨rfl, a, b, sab, rfl⟩ ⟨y, (s1.set x1 (all hi i0)).set x2 (all hj j0), c⟩⟩
end
end Ph
namespace K13p
open PySem
def top (i : Nat) : Stmt := PySem.Challenge.pw_placehues_k13_whole_books_bent.main.body.getD i (.Pass ⟨0, 0, 0, 0⟩)
open PySem PySem.Spec PyProof.Rows L2 Ph
section
variable {P : Program} {w : World} {K : PySem.W.Frag} {mg : Str → Option Value} {base : Heap}
abbrev s__law_same : Stmt := top 23
abbrev N__law_same : List Str := ["got", "goal", "mine_so", "own"]
theorem sc__law_same : FnScope N__law_same ["got", "goal"] (defScope s__law_same) := ⟨rfl, rfl, rfl, by decide +kernel, rfl, by decide +kernel, by decide +kernel⟩
theorem ok__law_same {f : Addr} {fd : FuncData} (F : Fun K "_law_same" "_law_same" s__law_same f fd) (T : Blt mg) (gf : mg "_law_same" = some (.ref f)) (kf : PySem.W.keepIn K (.ref f) = true) (bf : Binds K fd ["got", "goal"] []) :
    ∀ n : Nat, FnOk P w K mg base CX0 n f fd ["got", "goal"] (spD K 2 (R_same n)) := by
  intro n
  induction n with
  | zero => exact ⟨fun vs H Q E h => (by obtain ⟨as, d, _, _, h, _⟩ := h; exact h.elim), fun A outer s H args us vs Q E hr e0 hb hv h => (by obtain ⟨as, d, _, _, h, _⟩ := h; exact h.elim)⟩
  | succ n ih =>
    have C : Cal P w K mg base "_law_same" n ["got", "goal"] (spD K 2 (R_same n)) := ⟨f, fd, gf, kf, bf, ih⟩
    refine fn_pure F sc__law_same rfl fun cdv A outer s H E hr => ?_
    refine ⟨_, (pss_cons (ps_if (pt_val (pe_callB call_isiT (by rfl) T.isinstance PyProof.Rows.boot_isinstance (pa_cons (pv 1) (pa_cons (pe_tup (pa_cons (pe_bltn (v := .ty "list") (by rfl) T.list (by decide +kernel) rfl) (pa_cons (pe_bltn (v := .ty "tuple") (by rfl) T.tuple (by decide +kernel) rfl) pa_nil))) pa_nil)))) (pss_cons (ps_if (PW.pt (pw_or (pt_cmpR op_ne (pe_callB call_isi (by rfl) T.isinstance PyProof.Rows.boot_isinstance (pa_cons (pv 0) (pa_cons (pe_bltn (v := .ty "list") (by rfl) T.list (by decide +kernel) rfl) pa_nil))) (pe_callB call_isi (by rfl) T.isinstance PyProof.Rows.boot_isinstance (pa_cons (pv 1) (pa_cons (pe_bltn (v := .ty "list") (by rfl) T.list (by decide +kernel) rfl) pa_nil))) (nomark _)) (pw_or1 (pt_cmpR op_ne (pe_callB call_isi (by rfl) T.isinstance PyProof.Rows.boot_isinstance (pa_cons (pv 0) (pa_cons (pe_bltn (v := .ty "tuple") (by rfl) T.tuple (by decide +kernel) rfl) pa_nil))) (pe_callB call_isi (by rfl) T.isinstance PyProof.Rows.boot_isinstance (pa_cons (pv 1) (pa_cons (pe_bltn (v := .ty "tuple") (by rfl) T.tuple (by decide +kernel) rfl) pa_nil))) (nomark _))))) (pss_one (ps_ret pe_bl)) pss_nil)
      (pss_one (ps_ret (pe_and (pe_cmpR op_eq (pe_callB call_len_seq (by rfl) T.len PySem.boot_len (pa_cons (pv 0) pa_nil)) (pe_callB call_len_seq (by rfl) T.len PySem.boot_len (pa_cons (pv 1) pa_nil)) (nomark _)) (pe_one (pe_callB (cr_all rfl) (by rfl) T.all (by decide +kernel) (pa_cons (pe_lc (own := [("mine_so", 2), ("own", 3)]) (g := (gTup K 2 (gCons (gName 2) (gCons (gName 3) gNil)))) (tt := tYes) (te := (tCall (spHide _) [] E0 (tCons (tVar 2) (tCons (tVar 3) tNil)))) rfl sc__law_same.nd (RZ.pi_zipA (by rfl) T.zip (pa_cons (pv 0) (pa_cons (pv 1) pa_nil))) (blkOk_by (N := N__law_same) (sc := defScope s__law_same) (by decide +kernel)) (fun _ _ _ _ _ => by exact (pg_tup rfl (pgs_cons (pg_name (i := 2) sc__law_same.nd rfl (Or.inl rfl)) (pgs_cons (pg_name (i := 3) sc__law_same.nd rfl (Or.inl rfl)) pgs_nil)))) (fun _ _ _ _ _ => by exact pts_nil) (fun _ _ _ _ _ => by exact (pe_cal C hr (by rfl) (pa_cons (pv 2) (pa_cons (pv 3) pa_nil))))) pa_nil))))))) pss_nil)
      (pss_cons (ps_if (PW.pt (pw_or (pt_cmp (pc_isN (pv 1)) rfl) (pw_or1 (pt_val (pe_callB call_isiT (by rfl) T.isinstance PyProof.Rows.boot_isinstance (pa_cons (pv 1) (pa_cons (pe_tup (pa_cons (pe_bltn (v := .ty "bool") (by rfl) T.bool (by decide +kernel) rfl) (pa_cons (pe_bltn (v := .ty "str") (by rfl) T.str (by decide +kernel) rfl) pa_nil))) pa_nil))))))) (pss_one (ps_ret (pe_and (pe_cmpR op_eq (pv 0) (pv 1) (nomark _)) (pe_and (pe_cmpR op_eq (pe_callB call_isi (by rfl) T.isinstance PyProof.Rows.boot_isinstance (pa_cons (pv 0) (pa_cons (pe_bltn (v := .ty "bool") (by rfl) T.bool (by decide +kernel) rfl) pa_nil))) (pe_callB call_isi (by rfl) T.isinstance PyProof.Rows.boot_isinstance (pa_cons (pv 1) (pa_cons (pe_bltn (v := .ty "bool") (by rfl) T.bool (by decide +kernel) rfl) pa_nil))) (nomark _)) (pe_one (pe_cmpR op_eq (pe_cmp (pc_isN (pv 0)) rfl) (pe_cmp (pc_isN (pv 1)) rfl) (nomark _))))))) pss_nil)
      (pss_one (ps_ret (pe_and (pe_callB call_isi (by rfl) T.isinstance PyProof.Rows.boot_isinstance (pa_cons (pv 0) (pa_cons (pe_bltn (v := .ty "int") (by rfl) T.int (by decide +kernel) rfl) pa_nil))) (pe_and (pe_not (pe_callB call_isi (by rfl) T.isinstance PyProof.Rows.boot_isinstance (pa_cons (pv 0) (pa_cons (pe_bltn (v := .ty "bool") (by rfl) T.bool (by decide +kernel) rfl) pa_nil)))) (pe_one (pe_cmpR op_eq (pv 0) (pv 1) (nomark _))))))))), fun as d hl hR => ?_⟩
    obtain ⟨a, rfl, ok, rfl⟩ := hR
    cases a with
    | none => exact sr_ifRet (eb_B (ev_is_list_tuple (ev_var rfl))) (fun h => nomatch h) (fun _ => sr_ifRet (eb_or (eb_B (ev_isNone (ev_var rfl))) fun _ => eb_B (ev_is_bool_str (ev_var rfl))) (fun _ => sr_to (sr_ret (ev_andV (ev_op (ev_var rfl) (ev_var rfl) (od_eqS rfl)) fun _ => (ev_andV (ev_op (ev_is_bool (ev_var rfl)) (ev_is_bool (ev_var rfl)) od_eqB) fun _ => (ev_op (ev_isNone (ev_var rfl)) (ev_isNone (ev_var rfl)) od_eqB)))) rfl) (fun h => nomatch h))
    | bool b => exact sr_ifRet (eb_B (ev_is_list_tuple (ev_var rfl))) (fun h => nomatch h) (fun _ => sr_ifRet (eb_or (eb_B (ev_isNone (ev_var rfl))) fun _ => eb_B (ev_is_bool_str (ev_var rfl))) (fun _ => sr_to (sr_ret (ev_andV (ev_op (ev_var rfl) (ev_var rfl) (od_eqS rfl)) fun _ => (ev_andV (ev_op (ev_is_bool (ev_var rfl)) (ev_is_bool (ev_var rfl)) od_eqB) fun _ => (ev_op (ev_isNone (ev_var rfl)) (ev_isNone (ev_var rfl)) od_eqB)))) rfl) (fun h => nomatch h))
    | str b => exact sr_ifRet (eb_B (ev_is_list_tuple (ev_var rfl))) (fun h => nomatch h) (fun _ => sr_ifRet (eb_or (eb_B (ev_isNone (ev_var rfl))) fun _ => eb_B (ev_is_bool_str (ev_var rfl))) (fun _ => sr_to (sr_ret (ev_andV (ev_op (ev_var rfl) (ev_var rfl) (od_eqS rfl)) fun _ => (ev_andV (ev_op (ev_is_bool (ev_var rfl)) (ev_is_bool (ev_var rfl)) od_eqB) fun _ => (ev_op (ev_isNone (ev_var rfl)) (ev_isNone (ev_var rfl)) od_eqB)))) rfl) (fun h => nomatch h))
    | int i => exact sr_ifRet (eb_B (ev_is_list_tuple (ev_var rfl))) (fun h => nomatch h) (fun _ => sr_ifRet (eb_or (eb_B (ev_isNone (ev_var rfl))) fun _ => eb_B (ev_is_bool_str (ev_var rfl))) (fun h => nomatch h) (fun _ => sr_to (sr_ret (ev_andV (ev_is_int (ev_var rfl)) fun _ => (ev_andV (ev_notV (ev_is_bool (ev_var rfl))) fun _ => (ev_op (ev_var rfl) (ev_var rfl) (od_eqS rfl))))) rfl))
    | dict kvs => cases n <;> cases ok
    | list es =>
      cases n with
      | zero => cases ok
      | succ n =>
        obtain ⟨hl, hes⟩ := ok
        refine sr_ifRet (eb_B (ev_is_list_tuple (ev_var rfl))) (fun _ => sr_ifRet (eb_or (eb_test (ev_op (ev_is_list (ev_var rfl)) (ev_is_list (ev_var rfl)) od_neB)) fun _ => (eb_test (ev_op (ev_is_tuple (ev_var rfl)) (ev_is_tuple (ev_var rfl)) od_neB))) (fun h => nomatch h) (fun _ => ?_)) (fun h => nomatch h)
        refine sr_to (sr_ret (ev_andV (ev_op (ev_cb (ea_cons (ev_var rfl) ea_nil) cb_lenL) (ev_cb (ea_cons (ev_var rfl) ea_nil) cb_lenL) od_eqI) fun _ => (ev_allc (fun e => .tuple [e, e]) (fun _ => true) _ (zipD_self es ▸ ei_zipL (ev_var rfl) (ev_var rfl)) hl (gw_two (by simp) (by simp)) (fun e _ => gt_two) (fun e he o => ev_call (ea_cons (ev_var rfl) (ea_cons (ev_var rfl) ea_nil)) rfl ⟨e, rfl, hes e he, rfl⟩)))) ?_
        rw [List.all_eq_true.mpr (fun _ _ => rfl), decide_eq_true rfl]
        rfl
    | tuple es =>
      cases n with
      | zero => cases ok
      | succ n =>
        obtain ⟨hl, hes⟩ := ok
        refine sr_ifRet (eb_B (ev_is_list_tuple (ev_var rfl))) (fun _ => sr_ifRet (eb_or (eb_test (ev_op (ev_is_list (ev_var rfl)) (ev_is_list (ev_var rfl)) od_neB)) fun _ => (eb_test (ev_op (ev_is_tuple (ev_var rfl)) (ev_is_tuple (ev_var rfl)) od_neB))) (fun h => nomatch h) (fun _ => ?_)) (fun h => nomatch h)
        refine sr_to (sr_ret (ev_andV (ev_op (ev_cb (ea_cons (ev_var rfl) ea_nil) cb_lenT) (ev_cb (ea_cons (ev_var rfl) ea_nil) cb_lenT) od_eqI) fun _ => (ev_allc (fun e => .tuple [e, e]) (fun _ => true) _ (zipD_self es ▸ ei_zipT (ev_var rfl) (ev_var rfl)) hl (gw_two (by simp) (by simp)) (fun e _ => gt_two) (fun e he o => ev_call (ea_cons (ev_var rfl) (ea_cons (ev_var rfl) ea_nil)) rfl ⟨e, rfl, hes e he, rfl⟩)))) ?_
        rw [List.all_eq_true.mpr (fun _ _ => rfl), decide_eq_true rfl]
        rfl
end
end K13p
namespace K13p
open PySem PySem.Spec PyProof.Rows L2 Ph
section
variable {P : Program} {w : World} {K : PySem.W.Frag} {mg : Str → Option Value} {base : Heap}
abbrev s__law_take : Stmt := top 20
abbrev N__law_take : List Str := ["urn", "low_so", "drawn", "once", "far", "twice"]
theorem sc__law_take : FnScope N__law_take ["urn", "low_so"] (defScope s__law_take) := ⟨rfl, rfl, rfl, by decide +kernel, rfl, by decide +kernel, by decide +kernel⟩
theorem ok__law_take {f : Addr} {fd : FuncData} (F : Fun K "_law_take" "_law_take" s__law_take f fd) (T : Blt mg) : FnOk P w K mg base CX0 1 f fd ["urn", "low_so"] spTake := by
  refine F.ok sc__law_take (fun vs H Q E h => ?_) (fun cdv A outer s H vs Q E hr h => ?_)
  · obtain ⟨u, low, n, rfl, _⟩ := h
    rfl
  · obtain ⟨u, low, n, rfl, ⟨b, c, m, hu, b0, c0, c1, m0, m1⟩, hn, l1, l2, q⟩ := h
    refine ⟨_, (pss_cons (ps_if (pt_cmpR op_gt (pe_ix ix_list (pv 0) pe_int (fun _ _ => rfl)) pe_int (nomark _)) (pss_cons (ps_set (i := 2) sc__law_take.nd rfl (Or.inl rfl) (pe_op op_mod (pe_callTy call_int1 (by rfl) T.int (by decide +kernel) (pa_cons (pe_ix ix_list (pv 0) pe_int (fun _ _ => rfl)) pa_nil)) (pv 1)))
      (pss_cons (ps_asg (pe_op op_fdivW (pe_ix ix_list (pv 0) pe_int (fun _ _ => rfl)) (pv 1)) (pg_sub (pv 0) pe_int set_list))
      (pss_one (ps_ret (pv 2))))) pss_nil)
      (pss_cons (ps_asg (pe_op op_add (pe_ix ix_list (pv 0) pe_int (fun _ _ => rfl)) pe_int) (pg_sub (pv 0) pe_int set_list))
      (pss_cons (ps_set (i := 3) sc__law_take.nd rfl (Or.inl rfl) (pe_op op_mod (pe_callTy call_int1 (by rfl) T.int (by decide +kernel) (pa_cons (pe_op op_mul (pe_op op_add (pe_ix ix_list (pv 0) pe_int (fun _ _ => rfl)) (pe_op op_mul pe_int (pe_ix ix_list (pv 0) pe_int (fun _ _ => rfl)))) (pe_op op_add pe_int (pe_ix ix_list (pv 0) pe_int (fun _ _ => rfl)))) pa_nil)) pe_int))
      (pss_cons (ps_set (i := 4) sc__law_take.nd rfl (Or.inl rfl) (pe_op op_add (pe_op op_mod (pe_callTy call_int1 (by rfl) T.int (by decide +kernel) (pa_cons (pv 3) pa_nil)) pe_int) pe_int))
      (pss_cons (ps_set (i := 5) sc__law_take.nd rfl (Or.inl rfl) (pe_op op_mod (pe_callTy call_int1 (by rfl) T.int (by decide +kernel) (pa_cons (pe_op op_mul (pe_op op_add (pe_op op_add (pv 3) (pe_ix ix_list (pv 0) pe_int (fun _ _ => rfl))) (pe_op op_fdiv (pe_ix ix_list (pv 0) pe_int (fun _ _ => rfl)) pe_int)) (pv 4)) pa_nil)) pe_int))
      (pss_one (ps_ret (pe_op op_mod (pe_callTy call_int1 (by rfl) T.int (by decide +kernel) (pa_cons (pe_op op_fdiv (pe_op op_mod (pe_callTy call_int1 (by rfl) T.int (by decide +kernel) (pa_cons (pe_op op_add (pe_op op_mul (pv 5) pe_int) (pv 3)) pa_nil)) pe_int) pe_int) pa_nil)) (pv 1))))))))), ?_⟩
    have n1 : (n : Int) ≤ 100000 := by omega
    have E0 : En K (hide H []) [some (.ref u), some (.int low), none, none, none, none] [some (.list [.int b, .int c, .int m]), some (.int low), none, none, none, none] :=
      en0 (.yes (.lst hu (.cons (.int b) (.cons (.int c) (.cons (.int m) .nil)))) (.yes (.int low) (.no (.no (.no (.no .nil))))))
    have hdv : CDivW b low := ⟨by omega, Nat.lt_trans (PySem.Flt.log2_lt_of (show 0 < 20 by decide) (show low.natAbs < 2 ^ 20 by omega)) (by decide)⟩
    -- the test
    refine ss_if (b := decide ((0 : Int) < b)) E0 own0 ?h fun H1 e1 W1 => ?_
    case h => exact (eb_test (ev_op (ev_op (ev_var (by rfl)) ev_int (od_ixL (d := .int b) (by rfl))) ev_int od_gt))
    have E1 := E0.mono (ex_hide e1)
    by_cases hb : (0 : Int) < b
    · rw [decide_eq_true hb]
      refine iteT ?_
      refine ss_set (e := .int (b % low)) E1 W1 ?h fun v H2 e2 W2 x => ?_
      case h => exact (ev_op (ev_cb (ea_cons (ev_op (ev_var (by rfl)) ev_int (od_ixL (d := .int b) (by rfl))) ea_nil) cb_int) (ev_var (by rfl)) (od_mod (by omega)))
      cases dd_int x
      have E2 := (E1.mono (ex_hide e2)).set (.int (b % low)) 2
      refine ss_item (j := 0) E2 W2 (ev_op (ev_op (ev_var (by rfl)) ev_int (od_ixL (d := .int b) (by rfl))) (ev_var (by rfl)) (od_divW hdv)) ev_int rfl (e2 _ _ (e1 _ _ hu)) rfl fun v H3 e3 W3 x => ?_
      cases dd_int x
      refine ⟨_, rfl, q (b % low) _ (Int.emod_nonneg _ (by omega)) (Int.emod_lt_of_pos _ (by omega)) (fun a z ha e => ?_) ?_⟩
      · rw [upd_ne ha]
        exact e3 _ _ (e2 _ _ (e1 _ _ e))
      · exact ⟨b / low, c, m, upd_same, Int.ediv_nonneg b0 (by omega), c0, c1, m0, by omega⟩
    · rw [decide_eq_false hb]
      refine iteF ?_
      -- urn[2] = urn[2] + 1
      refine ss_item (j := 2) E1 W1 (ev_op (ev_op (ev_var (by rfl)) ev_int (od_ixL (d := .int m) (by rfl))) ev_int od_add) ev_int rfl (e1 _ _ hu) rfl fun v H2 e2 W2 x => ?_
      cases dd_int x
      have hu2 : upd H2 u (.lst [.int b, .int c, .int (m + 1)]) u = some (.lst [.int b, .int c, .int (m + 1)]) := upd_same
      have E2 : En K (hide (upd H2 u (.lst [.int b, .int c, .int (m + 1)])) []) [some (.ref u), some (.int low), none, none, none, none] [some (.list [.int b, .int c, .int (m + 1)]), some (.int low), none, none, none, none] :=
        en0 (.yes (.lst hu2 (.cons (.int b) (.cons (.int c) (.cons (.int (m + 1)) .nil)))) (.yes (.int low) (.no (.no (.no (.no .nil))))))
      have e12 : But u H (upd H2 u (.lst [.int b, .int c, .int (m + 1)])) := fun a z ha e => by
        rw [upd_ne ha]
        exact e2 _ _ (e1 _ _ e)
      have U2 : Urn (upd H2 u (.lst [.int b, .int c, .int (m + 1)])) u (n + 1) := ⟨b, c, m + 1, hu2, b0, c0, c1, by omega, by omega⟩
      show tSeq _ _ _ _ (upd H2 u (.lst [.int b, .int c, .int (m + 1)]))
      generalize upd H2 u (.lst [.int b, .int c, .int (m + 1)]) = H3 at E2 e12 U2 ⊢
      -- once
      refine ss_set (e := .int (((c + 48271 * (m + 1)) * (39373 + (m + 1))) % 2147483647)) E2 own0 ?h fun v H4 e4 W4 x => ?_
      case h => exact (ev_op (ev_cb (ea_cons (ev_op (ev_op (ev_op (ev_var (by rfl)) ev_int (od_ixL (d := .int c) (by rfl))) (ev_op ev_int (ev_op (ev_var (by rfl)) ev_int (od_ixL (d := .int (m + 1)) (by rfl))) (od_mul (Or.inl (by decide)))) od_add) (ev_op ev_int (ev_op (ev_var (by rfl)) ev_int (od_ixL (d := .int (m + 1)) (by rfl))) od_add) (od_mul (Or.inr (by omega)))) ea_nil) cb_int) ev_int (od_mod (by decide)))
      cases dd_int x
      generalize hX : (((c + 48271 * (m + 1)) * (39373 + (m + 1))) % 2147483647 : Int) = X
      have E4 := (E2.mono (ex_hide e4)).set (.int X) 3
      -- far
      refine ss_set (e := .int (X % 40009 + 7)) E4 W4 ?h fun v H5 e5 W5 x => ?_
      case h => exact (ev_op (ev_op (ev_cb (ea_cons (ev_var (by rfl)) ea_nil) cb_int) ev_int (od_mod (by decide))) ev_int od_add)
      cases dd_int x
      have fb : 0 ≤ X % 40009 := Int.emod_nonneg _ (by decide)
      have fb2 : X % 40009 < 40009 := Int.emod_lt_of_pos _ (by decide)
      generalize X % 40009 = Y at fb fb2
      have E5 := (E4.mono (ex_hide e5)).set (.int (Y + 7)) 4
      -- twice
      refine ss_set (e := .int (((X + (m + 1) + c / 1000003) * (Y + 7)) % 2147483629)) E5 W5 ?h fun v H6 e6 W6 x => ?_
      case h => exact (ev_op (ev_cb (ea_cons (ev_op (ev_op (ev_op (ev_var (by rfl)) (ev_op (ev_var (by rfl)) ev_int (od_ixL (d := .int (m + 1)) (by rfl))) od_add) (ev_op (ev_op (ev_var (by rfl)) ev_int (od_ixL (d := .int c) (by rfl))) ev_int (od_div ⟨by decide, by decide⟩)) od_add) (ev_var (by rfl)) (od_mul (Or.inr (by omega)))) ea_nil) cb_int) ev_int (od_mod (by decide)))
      cases dd_int x
      generalize (((X + (m + 1) + c / 1000003) * (Y + 7)) % 2147483629 : Int) = Z
      have E6 := (E5.mono (ex_hide e6)).set (.int Z) 5
      refine st_ret (e := .int ((Z * 48271 + X) % 2147483587 / 64 % low)) E6 W6 ?h fun v H7 e7 W7 x => ?_
      case h => exact (ev_op (ev_cb (ea_cons (ev_op (ev_op (ev_cb (ea_cons (ev_op (ev_op (ev_var (by rfl)) ev_int (od_mul (Or.inr (by decide)))) (ev_var (by rfl)) od_add) ea_nil) cb_int) ev_int (od_mod (by decide))) ev_int (od_div ⟨by decide, by decide⟩)) ea_nil) cb_int) (ev_var (by rfl)) (od_mod (by omega)))
      cases dd_int x
      refine q _ _ (Int.emod_nonneg _ (by omega)) (Int.emod_lt_of_pos _ (by omega)) (fun a z ha e => e7 _ _ (e6 _ _ (e5 _ _ (e4 _ _ (e12 a z ha e))))) (U2.keep ?_)
      obtain ⟨b2, c2, m2, g, _⟩ := U2
      rw [g]
      exact e7 _ _ (e6 _ _ (e5 _ _ (e4 _ _ g)))
abbrev s__law_box : Stmt := top 19
abbrev N__law_box : List Str := ["script", "k", "cell"]
theorem sc__law_box : FnScope N__law_box ["script", "k"] (defScope s__law_box) := ⟨rfl, rfl, rfl, by decide +kernel, rfl, by decide +kernel, by decide +kernel⟩
theorem ok__law_box {f : Addr} {fd : FuncData} (F : Fun K "_law_box" "_law_box" s__law_box f fd) (T : Blt mg) : FnOk P w K mg base CX0 1 f fd ["script", "k"] spBox := by
  refine F.ok sc__law_box (fun vs H Q E h => ?_) (fun cdv A outer s H vs Q E hr h => ?_)
  · obtain ⟨a, ns, k, rfl, _⟩ := h
    rfl
  · obtain ⟨a, ns, k, rfl, ha, hk, k1, q⟩ := h
    refine ⟨_, (pss_cons (ps_set (i := 2) sc__law_box.nd rfl (Or.inl rfl) (pe_ifExp (pt_cmpR op_lt (pv 1) (pe_callB call_len_seq (by rfl) T.len PySem.boot_len (pa_cons (pv 0) pa_nil)) (nomark _)) (pe_ix ix_list (pv 0) (pv 1) (fun _ _ => rfl)) pe_int))
      (pss_one (ps_ret (pe_lst (pa_cons (pe_op op_mul (pe_callB call_abs (by rfl) T.abs (by decide +kernel) (pa_cons (pv 2) pa_nil)) (pe_callTy call_int1 (by rfl) T.int (by decide +kernel) (pa_cons (pe_cmpR op_ge (pe_callB call_abs (by rfl) T.abs (by decide +kernel) (pa_cons (pv 2) pa_nil)) (pe_op op_pow pe_int pe_int) (nomark _)) pa_nil))) (pa_cons (pe_op op_add (pe_op op_add (pe_op op_mod (pe_callTy call_int1 (by rfl) T.int (by decide +kernel) (pa_cons (pv 2) pa_nil)) pe_int) (pe_op op_mul pe_int (pv 1))) pe_int) (pa_cons pe_int pa_nil))))))), ?_⟩
    have E0 : En K (hide H []) [some (.ref a), some (.int k), none] [some (.list (ns.map PyData.int)), some (.int k), none] :=
      en0 (.yes (.lst ha (dds_of_ints ns)) (.yes (.int k) (.no .nil)))
    have hlen : decide ((k : Int) < ((ns.map PyData.int).length : Nat)) = true := decide_eq_true (by rw [List.length_map]; omega)
    refine ss_set (e := .int ns[k]) E0 own0 (ev_ifE (b := true) (hlen ▸ eb_test (ev_op (ev_var (by rfl)) (ev_cb (ea_cons (ev_var (by rfl)) ea_nil) cb_lenL) od_lt)) (fun _ => (ev_op (ev_var (by rfl)) (ev_var (by rfl)) (od_ixL (by exact atI_nat (mapGet hk))))) (fun h => nomatch h)) fun v H1 e1 W1 x => ?_
    cases dd_int x
    have E1 := (E0.mono (ex_hide e1)).set (.int ns[k]) 2
    generalize ns[k] = z at E1 ⊢
    refine st_retNew (es := [.int ((if z < 0 then -z else z) * (if (decide ((10 : Int) ^ (18 : Int).toNat ≤ if z < 0 then -z else z)) then 1 else 0)), .int (z % 2305843009213693951 + 39373 * k + 3174013), .int 0]) E1 W1 (ea_cons (ev_op (ev_cb (ea_cons (ev_var (by rfl)) ea_nil) cb_abs) (ev_cb (ea_cons (ev_op (ev_cb (ea_cons (ev_var (by rfl)) ea_nil) cb_abs) (ev_op ev_int ev_int (od_pow ⟨by decide, by decide, by decide⟩)) od_ge) ea_nil) cb_intB) (od_mul (Or.inr (b01 _)))) (ea_cons (ev_op (ev_op (ev_op (ev_cb (ea_cons (ev_var (by rfl)) ea_nil) cb_int) ev_int (od_mod (by decide))) (ev_op ev_int (ev_var (by rfl)) (od_mul (Or.inl (by decide)))) od_add) ev_int od_add) (ea_cons ev_int ea_nil))) (by show 3 ≤ sizeLine; decide) fun vs p H2 H3 e2 hp e3 xs => ?_
    have z0 : (0 : Int) ≤ z % 2305843009213693951 := Int.emod_nonneg _ (by decide)
    have z1 : z % 2305843009213693951 < 2305843009213693951 := Int.emod_lt_of_pos _ (by decide)
    subst e3
    cases xs with
    | cons h1 xs =>
      cases xs with
      | cons h2 xs =>
        cases xs with
        | cons h3 xs =>
          cases xs
          rw [dd_int h1, dd_int h2, dd_int h3]
          have pH : H p = none := (e1.trans e2).free hp
          refine q p _ (fun a x e => ?_) pH ⟨_, _, _, upd_same, ?_, by omega, by omega, by decide, by decide⟩
          · rw [upd_ne (ne_of_none e pH)]
            exact e2 _ _ (e1 _ _ e)
          · refine Int.mul_nonneg ?_ ?_
            · split <;> omega
            · exact b0 _
abbrev s__law_of : Stmt := top 25
abbrev N__law_of : List Str := ["urn", "goods"]
theorem sc__law_of : FnScope N__law_of ["urn", "goods"] (defScope s__law_of) := ⟨rfl, rfl, rfl, by decide +kernel, rfl, by decide +kernel, by decide +kernel⟩
theorem ok__law_of {f : Addr} {fd : FuncData} (F : Fun K "_law_of" "_law_of" s__law_of f fd) (T : Blt mg) (C : Cal P w K mg base "_law_take" 1 ["urn", "low_so"] (spU K 1 1 pre_take R_take)) : FnOk P w K mg base CX0 2 f fd ["urn", "goods"] (spU K 1 1 pre_of R_of) := by
  refine fn_draw F sc__law_of rfl fun cdv A outer s H E hr => ?_
  refine ⟨_, (pss_one (ps_ret (pe_ix ix_list (pv 1) (pe_cal C (hr.mono (by decide)) (by rfl) (pa_cons (pv 0) (pa_cons (pe_callB call_len_seq (by rfl) T.len PySem.boot_len (pa_cons (pv 1) pa_nil)) pa_nil))) (fun _ _ => rfl)))), fun u as hl hp => ?_⟩
  obtain ⟨es, rfl, l1, l2⟩ := hp
  refine su_more (su_ret (eu_op (eu_pure (ev_var (by rfl))) (eu_call (ea_cons (ev_cb (ea_cons (ev_var (by rfl)) ea_nil) cb_lenL) ea_nil) rfl ⟨_, rfl, by omega, by omega⟩) fun a b ha hb => ?_)) (Nat.le_refl _)
  obtain ⟨low, r, e1, rfl, r0, r1⟩ := hb
  cases e1
  subst ha
  obtain ⟨j, rfl⟩ := Int.eq_ofNat_of_zero_le r0
  have hj : j < es.length := by omega
  exact ⟨es[j], ⟨es, rfl, List.getElem_mem hj⟩, od_ixL (atI_nat (List.getElem?_eq_getElem hj))⟩
end
end K13p
namespace K13p
open PySem PySem.Spec PyProof.Rows L2 Ph
section
variable {P : Program} {w : World} {K : PySem.W.Frag} {mg : Str → Option Value} {base : Heap}
theorem ixN_in {n : Nat} {i : Int} (h0 : 0 ≤ i) (h1 : i < n) : ixN n i = some i.toNat := by
  unfold ixN
  rw [if_pos h0, if_pos h1]
/-- the first cells; a later one added to its place -/
def cell0 (ns : List Int) (top : Int) : List Int := if ns.take top.toNat = [] then [0] else ns.take top.toNat
def cellStep (top : Int) (cs : List Int) (k : Nat) (x : Int) : List Int := cs.set ((k : Int) % top).toNat (cs.getD ((k : Int) % top).toNat 0 + x * ((k : Int) + 2))
def cellN (ns : List Int) (top : Int) : Nat → List Int
  | 0 => cell0 ns top
  | i + 1 => cellStep top (cellN ns top i) i ((ns.drop top.toNat).getD i 0)
theorem cellN_len (ns : List Int) (top : Int) : ∀ i, (cellN ns top i).length = (cell0 ns top).length
  | 0 => rfl
  | i + 1 => by
    show (cellStep _ _ _ _).length = _
    unfold cellStep
    rw [List.length_set, cellN_len ns top i]
theorem cell0_len {ns : List Int} {top : Int} (h : 1 ≤ top) : 1 ≤ (cell0 ns top).length ∧ ((cell0 ns top).length : Int) ≤ top := by
  unfold cell0
  split
  · exact ⟨Nat.le_refl _, by show (1 : Int) ≤ top; exact h⟩
  · rename_i c
    have z : (ns.take top.toNat).length ≠ 0 := fun z => c (List.eq_nil_of_length_eq_zero z)
    refine ⟨by omega, ?_⟩
    have := List.length_take_le top.toNat ns
    omega
theorem cell0_full {ns : List Int} {top : Int} (h : 1 ≤ top) (l : top.toNat < ns.length) : ((cell0 ns top).length : Int) = top := by
  have z : (ns.take top.toNat).length = top.toNat := by rw [List.length_take]; omega
  unfold cell0
  rw [if_neg (fun c => by rw [c] at z; simp at z; omega)]
  omega
theorem sIx_int (n d : Nat) {k : Int} (h : 0 ≤ k) : HT.sIx n d (some k) = min k.toNat n := by
  obtain ⟨j, rfl⟩ := Int.eq_ofNat_of_zero_le h
  rw [HT.sIx_nat, Int.toNat_natCast]
theorem cutV_hi (xs : List V) {k : Int} (h : 0 ≤ k) : cutV xs none (some k) = xs.take k.toNat := by
  unfold cutV
  rw [sIx_int _ _ h, show HT.sIx xs.length 0 none = 0 from rfl, List.drop_zero, Nat.sub_zero]
  by_cases c : k.toNat ≤ xs.length
  · rw [Nat.min_eq_left c]
  · rw [Nat.min_eq_right (by omega), List.take_length, List.take_of_length_le (by omega)]
theorem cutV_two (xs : List V) {k : Int} (h : 0 ≤ k) (l : xs.length ≤ 63) : cutV xs (some k) (some 63) = xs.drop k.toNat := by
  unfold cutV
  rw [sIx_int _ _ h, sIx_int _ _ (by decide : (0 : Int) ≤ 63)]
  by_cases c : k.toNat ≤ xs.length
  · rw [Nat.min_eq_left c]
    refine List.take_of_length_le ?_
    rw [List.length_drop]
    have : min (63 : Int).toNat xs.length = xs.length := Nat.min_eq_right (by show xs.length ≤ 63; exact l)
    omega
  · rw [show min k.toNat xs.length = xs.length from Nat.min_eq_right (by omega), List.drop_length, List.drop_of_length_le (by omega), List.take_nil]
theorem enum_at {ns : List Int} {i : Nat} {e : PyData} (h : (enumD (ns.map PyData.int))[i]? = some e) : i < ns.length ∧ e = .tuple [.int (i : Nat), .int (ns.getD i 0)] := by
  unfold enumD at h
  rw [List.getElem?_mapIdx, List.getElem?_map] at h
  cases z : ns[i]? with
  | none => rw [z] at h; cases h
  | some x =>
    rw [z] at h
    refine ⟨(List.getElem?_eq_some_iff.mp z).1, ?_⟩
    rw [List.getD_eq_getElem?_getD, z]
    exact (Option.some.inj h).symm
theorem cells_rest {tb : TS} {D : Ends} {a p : Addr} {ns : List Int} {top : Int} {H H' : Hp} (hS : SqL K H a (ns.map V.int)) (hl : ns.length ≤ 63) (t1 : 1 ≤ top) (e : Ex H H') (n : H p = none) (hp : H' p = some (.lst ((cell0 ns top).map V.int)))
    (hb : ∀ (cs : List Int) (i : Nat) (x : Int), (cs.length : Int) = top → i ≤ 63 → MvN K [] tb [(2, .l (cs.map PyData.int))] [none, some (.int top), none, some (.int i), some (.int x), none] [(2, .l ((cellStep top cs i x).map PyData.int))] [none, some (.int top), none, none, none, none])
    (q : ∀ p H' ms, Ex H H' → H p = none → H' p = some (.lst ((ms : List Int).map V.int)) → 1 ≤ ms.length → (ms.length : Int) ≤ top → D.rt (.ref p) H') :
    tSeq (tFor (iEnum K (tCons (tSl (rSlL K) (tVar 0) (tPart (tVar 1)) (tPart (tC (.int 63)))) tNil)) (gTup K 2 (gCons (gName 3) (gCons (gName 4) gNil))) tb) (tRet (tVar 2)) D [some (.ref a), some (.int top), some (.ref p), none, none, none] H' := by
  have s0 : MS K H [] [(2, .l ((cellN ns top 0).map PyData.int))] [p] [some (.ref a), some (.int top), some (.ref p), none, none, none] H' [none, some (.int top), none, none, none, none] :=
    ⟨by rw [hide_nil]; exact e, own0, .no (.yes (.int top) (.no (.no (.no (.no .nil))))), .cons rfl hp (.l (dds_of_ints _)) n (by simp) .nil, List.nodup_cons.mpr ⟨by simp, List.nodup_nil⟩⟩
  refine for_mutG (D := { D with nx := fun σ H => tRet (tVar 2) D σ H }) (es := enumD ((ns.drop top.toNat).map PyData.int)) (fun i => [(2, .l ((cellN ns top i).map PyData.int))]) (fun _ => [none, some (.int top), none, none, none, none]) (fun _ => True) (fun R r => ?_) s0 True.intro (fun i en he _ => ?_) fun σ' H2 ps' _ s' => ?_
  · refine ⟨.ref a, rfl, .int top, rfl, top, rfl, 63, rfl, a, ns.map V.int, rfl, Same.seq e hS, fun p4 h4 => ⟨p4, _, rfl, SqL.of upd_same, r _ _ (ex_new h4) (ow_mono s0.owA (ex_new h4)) (it_enum (hide_new s0.owA h4) ?_)⟩⟩
    rw [cutV_two _ (by omega) (by rw [List.length_map]; exact hl), ← List.map_drop]
    exact dds_of_ints _
  · obtain ⟨hi, rfl⟩ := enum_at he
    rw [List.length_drop] at hi
    refine ⟨_, [3, 4], gs_two (by simp) (by simp), fun x h => by
      cases (List.mem_singleton.mp h)
      show (2 : Nat) ∉ [3, 4]
      decide, fun B' ps σ2 H2 D' _ _ _ s2 k => ?_⟩
    refine hb _ i _ ?_ (by omega) B' D' ps σ2 H2 s2 fun σ' H' ps' s' => k σ' H' ps' True.intro s'
    rw [cellN_len]
    exact cell0_full t1 (by omega)
  · have l := cellN_len ns top (enumD ((ns.drop top.toNat).map PyData.int)).length
    obtain ⟨p', x, hp', hs, hv, ob, b, _⟩ := s'.mu.at (k := 0) rfl
    cases ob with | @l vs _ t => ?_
    have ev := dds_ints t
    subst ev
    have c := cell0_len (ns := ns) t1
    refine ⟨.ref p', hs, q p' H2 _ (by have z := s'.ex; rw [hide_nil] at z; exact z) b hv (by rw [l]; exact c.1) (by rw [l]; exact c.2)⟩
abbrev s__law_cells : Stmt := top 21
abbrev N__law_cells : List Str := ["script", "top", "cells", "k", "cell", "at_so"]
theorem sc__law_cells : FnScope N__law_cells ["script", "top"] (defScope s__law_cells) := ⟨rfl, rfl, rfl, by decide +kernel, rfl, by decide +kernel, by decide +kernel⟩
theorem ok__law_cells {f : Addr} {fd : FuncData} (F : Fun K "_law_cells" "_law_cells" s__law_cells f fd) (T : Blt mg) : FnOk P w K mg base CX0 1 f fd ["script", "top"] (spCells K) := by
  refine F.ok sc__law_cells (fun vs H Q E h => ?_) (fun cdv A outer s H vs Q E hr h => ?_)
  · obtain ⟨a, ns, top, rfl, _⟩ := h
    rfl
  · obtain ⟨a, ns, top, rfl, hS, hlen, t1, t2, q⟩ := h
    refine ⟨_, (pss_cons (ps_set (i := 2) sc__law_cells.nd rfl (Or.inl rfl) (pe_orT (pe_callTy call_list_of (by rfl) T.list (by decide +kernel) (pa_cons (pe_slice sl_list (pv 0) po_none (po_some (pv 1))) pa_nil)) (pe_one (pe_lst (pa_cons pe_int pa_nil)))))
      (pss_cons (ps_for PassesOwn.never rfl (pi_enum (by rfl) T.enumerate (pa_cons (pe_slice sl_list (pv 0) (po_some (pv 1)) (po_some pe_int)) pa_nil)) (pg_tup rfl (pgs_cons (pg_name (i := 3) sc__law_cells.nd rfl (Or.inl rfl)) (pgs_cons (pg_name (i := 4) sc__law_cells.nd rfl (Or.inl rfl)) pgs_nil))) (pss_cons (ps_set (i := 5) sc__law_cells.nd rfl (Or.inl rfl) (pe_op op_mod (pe_callTy call_int1 (by rfl) T.int (by decide +kernel) (pa_cons (pv 3) pa_nil)) (pv 1)))
      (pss_one (ps_asg (pe_op op_add (pe_ix ix_list (pv 2) (pv 5) (fun _ _ => rfl)) (pe_op op_mul (pv 4) (pe_op op_add (pv 3) pe_int))) (pg_sub (pv 2) (pv 5) set_list)))))
      (pss_one (ps_ret (pv 2))))), ?_⟩
    have hb : ∀ (cs : List Int) (i : Nat) (x : Int), (cs.length : Int) = top → i ≤ 63 → MvN K [] (tSeq (tAsg (tOp (rI (fun _ j => 0 < j) fun i j => .int (i % j)) (tCB rInt (tCons (tVar 3) tNil)) (tVar 1)) (gName 5)) (tAsg (tOp (rI0 fun i j => .int (i + j)) (tOp (rIxL K) (tVar 2) (tVar 5)) (tOp (rI CMul fun i j => .int (i * j)) (tVar 4) (tOp (rI0 fun i j => .int (i + j)) (tVar 3) (tC (.int 2))))) (gSub (tVar 2) (tVar 5) rSetL))) [(2, .l (cs.map PyData.int))] [none, some (.int top), none, some (.int i), some (.int x), none] [(2, .l ((cellStep top cs i x).map PyData.int))] [none, some (.int top), none, none, none, none] := by
      intro cs i x hl h63
      have b0 : 0 ≤ (i : Int) % top := Int.emod_nonneg _ (by omega)
      have b1 : (i : Int) % top < top := Int.emod_lt_of_pos _ (by omega)
      have lt : ((i : Int) % top).toNat < cs.length := by omega
      have hx : atI (cs.map PyData.int) ((i : Int) % top) = some (.int (cs.getD ((i : Int) % top).toNat 0)) := by
        unfold atI
        rw [ixN_in b0 (by rw [List.length_map]; omega)]
        show (cs.map PyData.int)[((i : Int) % top).toNat]? = _
        rw [List.getElem?_map, List.getElem?_eq_getElem lt, List.getD_eq_getElem?_getD, List.getElem?_eq_getElem lt]
        rfl
      refine mn_seq (mn_set (e := .int ((i : Int) % top)) (em_pure fun O => ?h1) ?n1) ?_
      case h1 => exact ev_op (ev_cb (ea_cons (ev_var (by rfl)) ea_nil) cb_int) (ev_var (by rfl)) (od_mod (by omega))
      case n1 => intro x h; cases (List.mem_singleton.mp h); show (2 : Nat) ≠ 5; decide
      refine mn_to (mn_forget 3 (mn_forget 4 (mn_forget 5 (mn_item (k := 0) (n := (i : Int) % top) (j := ((i : Int) % top).toNat) (e := .int (cs.getD ((i : Int) % top).toNat 0 + x * ((i : Int) + 2))) rfl ?h2 ?h3 (ixN_in b0 (by rw [List.length_map]; omega)))))) ?_ rfl
      case h2 => exact em_full (ev_op (ev_op (ev_var (by rfl)) (ev_var (by rfl)) (od_ixL hx)) (ev_op (ev_var (by rfl)) (ev_op (ev_var (by rfl)) ev_int od_add) (od_mul (Or.inr ⟨by omega, by omega⟩))) od_add) (fz_scal rfl)
      case h3 => exact em_pure fun O => ev_var (by rfl)
      · show [(2, MC.l ((cs.map PyData.int).set _ (.int _)))] = [(2, .l ((cellStep top cs i x).map PyData.int))]
        unfold cellStep
        rw [List.map_set]
    refine ⟨.ref a, rfl, .int top, rfl, top, rfl, a, ns.map V.int, rfl, hS, fun p1 h1 => ⟨p1, _, rfl, .inl (SqL.of upd_same), fun p2 h2 => ⟨_, .inl ⟨_, SqL.of upd_same, rfl⟩, ?_⟩⟩⟩
    rw [cutV_hi _ (by omega), ← List.map_take] at h2 ⊢
    have n2 : H p2 = none := (ex_new h1).free h2
    have e2 : Ex H (upd (upd H p1 (.lst ((ns.take top.toNat).map V.int))) p2 (.lst ((ns.take top.toNat).map V.int))) := (ex_new h1).trans (ex_new h2)
    cases z : ns.take top.toNat with
    | nil =>
      rw [z] at e2 h2
      refine iteF ⟨by show 1 ≤ sizeLine; decide, fun p3 h3 => ?_⟩
      refine cells_rest hS hlen t1 (e2.trans (ex_new h3)) (e2.free h3) ?_ hb q
      rw [upd_same]
      unfold cell0
      rw [if_pos z]
      rfl
    | cons y ys =>
      rw [z] at e2 h2
      refine iteT ?_
      refine cells_rest hS hlen t1 e2 n2 ?_ hb q
      rw [upd_same]
      unfold cell0
      rw [if_neg (by rw [z]; exact List.cons_ne_nil _ _), z]
end
end K13p
namespace Ph
open PySem PySem.Spec PyProof.Rows L2
section
variable {K : PySem.W.Frag} {u : Addr} {M : ML} {ds : List (Option PyData)} {k l : Nat} {te ti : TE} {R : PyData → Prop} {d : PyData}
theorem nd_inj {α : Type} {l : List α} (nd : l.Nodup) {i j : Nat} {a : α} (h1 : l[i]? = some a) (h2 : l[j]? = some a) : i = j := by
  obtain ⟨i1, e1⟩ := List.getElem?_eq_some_iff.mp h1
  obtain ⟨j1, e2⟩ := List.getElem?_eq_some_iff.mp h2
  rcases Nat.lt_trichotomy i j with c | c | c
  · exact absurd (e1.trans e2.symm) (List.pairwise_iff_getElem.mp nd i j i1 j1 c)
  · exact c
  · exact absurd (e2.trans e1.symm) (List.pairwise_iff_getElem.mp nd j i j1 i1 c)
/-- x.append(e), e drawn -/
theorem xn_append {j i : Nat} {es : List PyData} (hk : M[j]? = some (i, .l es)) (h : ∀ O, EvU K O u 0 te ds k R) (hl : es.length < sizeLine) :
    XvN K u k (tDrop (tBM K "list" rAppend (tVar i) (tCons te tNil))) M ds (fun M' ds' => ds' = ds ∧ ∃ e, R e ∧ M' = M.set j (i, .l (es ++ [e]))) := fun B D ps σ H n s hn q => by
  obtain ⟨y0, s0, c0⟩ := id s
  have jl : j < M.length := (List.getElem?_eq_some_iff.mp hk).1
  have at_ : ∀ y, (XS M u y)[j]? = some (i, .l es) := fun y => by rw [List.getElem?_append_left jl]; exact hk
  obtain ⟨p0, x00, hp0, hs0, hv0, t0, _, _⟩ := s0.mu.at (at_ y0)
  cases t0 with | @l vs0 _ t0 => ?_
  refine ⟨.ref p0, hs0, .inl ⟨rfl, vs0, SqL.of hv0⟩, ?_⟩
  refine h (ps ++ []) σ H n s.en s.owA s.at hn _ fun v d H1 r Dr x => ?_
  obtain ⟨y, s1, c⟩ := s.draw Dr
  obtain ⟨p, x0, hp, hs, hv, t, _, _⟩ := s1.mu.at (at_ y)
  cases t with | @l vs _ t => ?_
  have e0 : p = p0 := by rw [hs0] at hs; cases hs; rfl
  subst e0
  refine ⟨p, vs, v, rfl, rfl, hv, by rw [t.length]; exact hl, ?_⟩
  refine q _ _ σ _ ps ⟨rfl, d, r, rfl⟩ ⟨y, ?_, c⟩
  have e3 : XS (M.set j (i, .l (es ++ [d]))) u y = (XS M u y).set j (i, .l (es ++ [d])) := by rw [List.set_append_left _ _ jl]
  rw [e3]
  exact s1.put (at_ y) hp (.l (t.append (.cons x .nil)))
/-- a list of one's own is returned -/
theorem xr_retL {j i : Nat} {es : List PyData} (hk : M[j]? = some (i, .l es)) (r : R (.list es)) : XvR K u 0 (tRet (tVar i)) M ds R := fun B D ps σ H n s hn q => by
  obtain ⟨y, s, c⟩ := s
  have jl : j < M.length := (List.getElem?_eq_some_iff.mp hk).1
  have at_ : (XS M u y)[j]? = some (i, .l es) := by rw [List.getElem?_append_left jl]; exact hk
  obtain ⟨h1, h2, h3, hb⟩ := XT.src s
  obtain ⟨p, x0, hp, hs, hv, t, _, _⟩ := s.mu.at at_
  cases t with | @l vs _ t => ?_
  have np : p ≠ u := fun z => by
    have z2 := nd_inj s.nd hp (z ▸ h1)
    omega
  have ex := s.ex
  rw [hide_nil] at ex
  refine ⟨.ref p, hs, q (.ref p) (.list es) H r ex (uc_urn h3 c) ?_⟩
  have sub : Ex (hide H (ps ++ [])) (hide H [u]) := fun a x e => by
    obtain ⟨ca, e⟩ := hide_some e
    rw [hide_out (fun m => ca (by rw [List.mem_singleton.mp m]; exact List.mem_append_left _ (List.mem_of_getElem? h1)))]
    exact e
  exact .lst (by rw [hide_out (by simp [np])]; exact hv) (t.mono sub)
/-- a if t else b, draws in both -/
theorem eu_ifE {t : TT} {O : List Addr} {iu : Nat} {b : Bool} {ta tb : TE} (h : EvB K O t ds b) (h1 : b = true → EvU K O u iu ta ds k R) (h2 : b = false → EvU K O u iu tb ds k R) : EvU K O u iu (tIf t ta tb) ds k R := fun σ H n E W A hn Q q =>
  h σ H E W _ fun H1 e1 W1 => by
    have D0 : Dr H H1 O u n := Dr.of e1 W A.urn
    have q' : ∀ v d H2, R d → Dr H1 H2 O u (n + k) → DD K (hide H2 O) v d → Q v H2 := fun v d H2 r D x => q v d H2 r (D0.trans D) x
    cases b with
    | true => exact iteT (h1 rfl σ H1 n (E.mono (ex_hide e1)) W1 (A.next D0) hn Q q')
    | false => exact iteF (h2 rfl σ H1 n (E.mono (ex_hide e1)) W1 (A.next D0) hn Q q')
end
end Ph
namespace Ph
open PySem PySem.Spec PyProof.Rows L2
section
variable {K : PySem.W.Frag} {u : Addr} {M : ML} {ds : List (Option PyData)} {k l j : Nat} {te ta tb : TE} {R R1 R2' : PyData → Prop} {d : PyData} {S : List PyData → Prop}
def EvX (K : PySem.W.Frag) (u : Addr) (k : Nat) (te : TE) (M : ML) (ds : List (Option PyData)) (R : PyData → Prop) : Prop :=
  ∀ B ps σ H n, XT K B u M ps σ H ds n → n + k ≤ 100000 → ∀ Q : VK, (∀ v d H2, R d → Dr H H2 (ps ++ []) u (n + k) → DD K (hide H2 (ps ++ [])) v d → Q v H2) → te σ H Q
def EvAX (K : PySem.W.Frag) (u : Addr) (k : Nat) (ta : TA) (M : ML) (ds : List (Option PyData)) (R : List PyData → Prop) : Prop :=
  ∀ B ps σ H n, XT K B u M ps σ H ds n → n + k ≤ 100000 → ∀ Q : List V → Hp → Prop, (∀ vs es H2, R es → Dr H H2 (ps ++ []) u (n + k) → DDs K (hide H2 (ps ++ [])) vs es → Q vs H2) → ta σ H Q
theorem evx_U (h : ∀ O, EvU K O u 0 te ds k R) : EvX K u k te M ds R := fun B ps σ H n s hn Q q => h (ps ++ []) σ H n s.en s.owA s.at hn Q q
theorem evx_M (h : ∀ x, EvM K [] (XS M u x) te ds d) : EvX K u 0 te M ds (fun y => y = d) := fun B ps σ H n s hn Q q => by
  obtain ⟨x, s, c⟩ := s
  obtain ⟨h1, h2, h3, hb⟩ := XT.src s
  exact h x B ps σ H s Q fun v H2 s2 e y => q v d H2 rfl (Dr.of e s.owA (uc_urn h3 c)) y
theorem evax_nil : EvAX K u 0 tNil M ds (fun es => es = []) := fun B ps σ H n s hn Q q => q [] [] H rfl (Dr.of (Same.refl H) s.owA s.at.urn) .nil
theorem evax_cons {t : TA} (h : EvX K u k ta M ds R) (h2 : EvAX K u j t M ds S) : EvAX K u (k + j) (tCons ta t) M ds (fun es => ∃ d r, es = d :: r ∧ R d ∧ S r) := fun B ps σ H n s hn Q q =>
  h B ps σ H n s (by omega) _ fun v d H1 r D1 x => h2 B ps σ H1 (n + k) (s.draw D1) (by omega) _ fun vs es H2 s2 D2 xs =>
    q (v :: vs) (d :: es) H2 ⟨d, es, rfl, r, s2⟩ (by rw [← Nat.add_assoc]; exact D1.trans D2) (.cons (x.mono D2.ex) xs)
theorem evx_tup {t : TA} (h : EvAX K u k t M ds S) (hl : ∀ es, S es → es.length ≤ sizeLine) : EvX K u k (tTup t) M ds (fun d => ∃ es, d = .tuple es ∧ S es) := fun B ps σ H n s hn Q q =>
  h B ps σ H n s hn _ fun vs es H1 s D1 xs => ⟨by rw [xs.length]; exact hl es s, fun p hp =>
    q _ (.tuple es) _ ⟨es, rfl, s⟩ (D1.trans (Dr.of (ex_new hp) D1.ow D1.urn)) (.tup (SqT.of (hide_new D1.ow hp)) (xs.mono (ex_hide (ex_new hp))))⟩
theorem evx_imp (h : EvX K u k te M ds R) (i : ∀ d, R d → R1 d) (l2 : k ≤ l) : EvX K u l te M ds R1 := fun B ps σ H n s hn Q q =>
  h B ps σ H n s (by omega) Q fun v d H2 r D x => q v d H2 (i d r) (D.up (by omega)) x
/-- a draw whose bound is read off a mutable list -/
theorem evx_callI {m : Nat} {pre : List PyData → Prop} {Rf : List PyData → PyData → Prop} {E : XK} {nn : Int} (ha : ∀ x, EvM K [] (XS M u x) ta ds (.int nn)) (hm : 1 = m) (hp : pre [.int nn]) :
    EvX K u k (tCall (spHide (spU K m k pre Rf)) [] E (tCons (tVar 0) (tCons ta tNil))) M ds (fun d => Rf [.int nn] d) := fun B ps σ H n s hn Q q => by
  obtain ⟨x, s, c⟩ := s
  obtain ⟨h1, h2, h3, hb⟩ := XT.src s
  refine ⟨.ref u, h2, ha x B ps σ H s _ fun v H1 s1 e1 y => ?_⟩
  cases dd_int y
  have st : XT K B u M ps σ H1 ds n := ⟨x, s1, c⟩
  have z := eu_call (K := K) (o := ps ++ []) (u := u) (iu := 0) (ds := ds) (k := k) (m := m) (pre := pre) (Rf := Rf) (E := E) (t := tCons (tC (.int nn)) tNil) (ea_cons ev_int ea_nil) hm hp σ H1 n st.en st.owA st.at hn Q fun v d H2 r D y =>
    q v d H2 r ((Dr.of e1 s.owA (uc_urn h3 c)).trans D) y
  obtain ⟨w, hw, z⟩ := z
  rw [h2] at hw
  cases hw
  exact z
/-- x.append(e), e drawn beside x -/
theorem xn_appX {j i : Nat} {es : List PyData} (hk : M[j]? = some (i, .l es)) (h : EvX K u k te M ds R) (hl : es.length < sizeLine) :
    XvN K u k (tDrop (tBM K "list" rAppend (tVar i) (tCons te tNil))) M ds (fun M' ds' => ds' = ds ∧ ∃ e, R e ∧ M' = M.set j (i, .l (es ++ [e]))) := fun B D ps σ H n s hn q => by
  obtain ⟨y0, s0, c0⟩ := id s
  have jl : j < M.length := (List.getElem?_eq_some_iff.mp hk).1
  have at_ : ∀ y, (XS M u y)[j]? = some (i, .l es) := fun y => by rw [List.getElem?_append_left jl]; exact hk
  obtain ⟨p0, x00, hp0, hs0, hv0, t0, _, _⟩ := s0.mu.at (at_ y0)
  cases t0 with | @l vs0 _ t0 => ?_
  refine ⟨.ref p0, hs0, .inl ⟨rfl, vs0, SqL.of hv0⟩, ?_⟩
  refine h B ps σ H n s hn _ fun v d H1 r Dr x => ?_
  obtain ⟨y, s1, c⟩ := s.draw Dr
  obtain ⟨p, x0, hp, hs, hv, t, _, _⟩ := s1.mu.at (at_ y)
  cases t with | @l vs _ t => ?_
  have e0 : p = p0 := by rw [hs0] at hs; cases hs; rfl
  subst e0
  refine ⟨p, vs, v, rfl, rfl, hv, by rw [t.length]; exact hl, ?_⟩
  refine q _ _ σ _ ps ⟨rfl, d, r, rfl⟩ ⟨y, ?_, c⟩
  have e3 : XS (M.set j (i, .l (es ++ [d]))) u y = (XS M u y).set j (i, .l (es ++ [d])) := by rw [List.set_append_left _ _ jl]
  rw [e3]
  exact s1.put (at_ y) hp (.l (t.append (.cons x .nil)))
/-- x.append(y.pop(e)), e a drawn place of y -/
theorem xn_popAppX {j j2 i i2 : Nat} {es fs : List PyData} (hk : M[j]? = some (i, .l es)) (hk2 : M[j2]? = some (i2, .l fs)) (ne : j ≠ j2) (h : EvX K u k te M ds (fun d => ∃ m : Nat, m < fs.length ∧ d = .int m)) (hl : es.length < sizeLine) (h63 : fs.length < 2 ^ 62) :
    XvN K u k (tDrop (tBM K "list" rAppend (tVar i) (tCons (tBM K "list" rPopAt (tVar i2) (tCons te tNil)) tNil))) M ds (fun M' ds' => ds' = ds ∧ ∃ m e, fs[m]? = some e ∧ M' = (M.set j2 (i2, .l (fs.eraseIdx m))).set j (i, .l (es ++ [e]))) := fun B D ps σ H n s hn q => by
  obtain ⟨y0, s0, c0⟩ := id s
  have jl : j < M.length := (List.getElem?_eq_some_iff.mp hk).1
  have jl2 : j2 < M.length := (List.getElem?_eq_some_iff.mp hk2).1
  have at_ : ∀ y, (XS M u y)[j]? = some (i, .l es) := fun y => by rw [List.getElem?_append_left jl]; exact hk
  have at2 : ∀ y, (XS M u y)[j2]? = some (i2, .l fs) := fun y => by rw [List.getElem?_append_left jl2]; exact hk2
  obtain ⟨p0, x00, hp0, hs0, hv0, t0, _, _⟩ := s0.mu.at (at_ y0)
  cases t0 with | @l vs0 _ t0 => ?_
  obtain ⟨p2, x02, hp2, hs2, hv2, t2, _, _⟩ := s0.mu.at (at2 y0)
  cases t2 with | @l vs2 _ t2 => ?_
  refine ⟨.ref p0, hs0, .inl ⟨rfl, vs0, SqL.of hv0⟩, ?_⟩
  refine ⟨.ref p2, hs2, .inl ⟨rfl, vs2, SqL.of hv2⟩, ?_⟩
  refine h B ps σ H n s hn _ fun v d H1 r Dr x => ?_
  obtain ⟨m, hm, rfl⟩ := r
  obtain ⟨y, s1, c⟩ := s.draw Dr
  obtain ⟨p, x0, hp, hs, hv, t, _, _⟩ := s1.mu.at (at_ y)
  cases t with | @l vs _ t => ?_
  obtain ⟨pp, xx, hpp, hss, hvv, tt, _, _⟩ := s1.mu.at (at2 y)
  cases tt with | @l ws _ tt => ?_
  have e0 : p = p0 := by rw [hs0] at hs; cases hs; rfl
  have e1 : pp = p2 := by rw [hs2] at hss; cases hss; rfl
  subst e0 e1
  have lw := tt.length
  obtain ⟨e, he⟩ : ∃ e, fs[m]? = some e := ⟨_, List.getElem?_eq_getElem hm⟩
  obtain ⟨w, hw⟩ : ∃ w, ws[m]? = some w := ⟨_, List.getElem?_eq_getElem (by omega)⟩
  have hwe : DD K (hide H1 (ps ++ [])) w e := tt.get hw he
  refine ⟨pp, ws, (m : Int), m, w, rfl, by rw [dd_int x], hvv, by omega, by omega, ?_, hw, ?_⟩
  · unfold seqIndex?
    have c0 : ¬ ((m : Int) < 0) := by omega
    have c1 : (0 : Int) ≤ (m : Int) := by omega
    have c2 : (m : Int) < (ws.length : Nat) := by omega
    simp only [if_neg c0]
    rw [if_pos (by rw [Bool.and_eq_true]; exact ⟨decide_eq_true c1, decide_eq_true c2⟩), Int.toNat_natCast]
  · have np : p ≠ pp := fun z => ne (nd_inj s1.nd hp (z ▸ hpp))
    have te1 : DDs K (hide H1 (ps ++ [])) (ws.eraseIdx m) (fs.eraseIdx m) := by
      rw [List.eraseIdx_eq_take_drop_succ, List.eraseIdx_eq_take_drop_succ]
      exact (tt.take m).append (tt.drop (m + 1))
    have s2 := s1.put (at2 y) hpp (.l te1)
    have eh : hide (upd H1 pp (.lst (ws.eraseIdx m))) (ps ++ []) = hide H1 (ps ++ []) := hide_upd (List.mem_append_left _ (List.mem_of_getElem? hpp))
    have at3 : ((XS M u y).set j2 (i2, .l (fs.eraseIdx m)))[j]? = some (i, .l es) := by
      rw [List.getElem?_set_ne (Ne.symm ne)]
      exact at_ y
    refine ⟨p, vs, w, rfl, rfl, by rw [upd_ne np]; exact hv, by rw [t.length]; exact hl, ?_⟩
    refine q _ _ σ _ ps ⟨rfl, m, e, he, rfl⟩ ⟨y, ?_, c⟩
    have e3 : XS ((M.set j2 (i2, .l (fs.eraseIdx m))).set j (i, .l (es ++ [e]))) u y = ((XS M u y).set j2 (i2, .l (fs.eraseIdx m))).set j (i, .l (es ++ [e])) := by
      rw [List.set_append_left _ _ jl2, List.set_append_left _ _ (by rw [List.length_set]; exact jl)]
    rw [e3]
    exact s2.put at3 hp (.l (by rw [eh]; exact t.append (.cons hwe .nil)))
/-- a fresh list, drawn -/
def EvFX (K : PySem.W.Frag) (u : Addr) (k : Nat) (te : TE) (M : ML) (ds : List (Option PyData)) (S : List PyData → Prop) : Prop :=
  ∀ B ps σ H n, XT K B u M ps σ H ds n → n + k ≤ 100000 → ∀ Q : VK, (∀ p vs es H1, S es → Dr H H1 (ps ++ []) u (n + k) → H1 p = none → DDs K (hide H1 (ps ++ [])) vs es → Q (.ref p) (upd H1 p (.lst vs))) → te σ H Q
theorem efx_cat {S1 S2 : List PyData → Prop} (h1 : EvX K u k ta M ds (fun d => ∃ es, d = .list es ∧ S1 es)) (h2 : EvX K u j tb M ds (fun d => ∃ es, d = .list es ∧ S2 es)) (hl : ∀ as bs, S1 as → S2 bs → as.length + bs.length ≤ sizeLine) :
    EvFX K u (k + j) (tOp rCat ta tb) M ds (fun es => ∃ as bs, S1 as ∧ S2 bs ∧ es = as ++ bs) := fun B ps σ H n s hn Q q =>
  h1 B ps σ H n s (by omega) _ fun v a H1 r1 D1 x => h2 B ps σ H1 (n + k) (s.draw D1) (by omega) _ fun w b H2 r2 D2 y => by
    obtain ⟨as, rfl, s1⟩ := r1
    obtain ⟨bs, rfl, s2⟩ := r2
    obtain ⟨a, xs, rfl, h, t⟩ := dd_lst (x.mono D2.ex)
    obtain ⟨b, ys, rfl, h2, t2⟩ := dd_lst y
    exact ⟨a, b, xs, ys, rfl, rfl, (hide_some h).2, (hide_some h2).2, by rw [t.length, t2.length]; exact hl as bs s1 s2, fun p hp => q p _ (as ++ bs) H2 ⟨as, bs, s1, s2, rfl⟩ (by rw [← Nat.add_assoc]; exact D1.trans D2) hp (t.append t2)⟩
theorem xn_newX {i : Nat} (h : EvFX K u k te M ds S) (hi : ∀ m ∈ M, m.1 ≠ i) (h0 : i ≠ 0) (hl : i < ds.length) : XvN K u k (tAsg te (gName i)) M ds (fun M' ds' => ∃ es, S es ∧ M' = (i, .l es) :: M ∧ ds' = ds.set i none) := fun B D ps σ H n s hn q =>
  h B ps σ H n s hn _ fun p vs es H1 r D np t => by
    obtain ⟨y, s1, c⟩ := s.draw D
    have v := s1.mv np (.l t)
    refine q _ _ _ _ (p :: ps) ⟨es, r, rfl, rfl⟩ ⟨y, v.bind (fun m hm => ?_) hl, c⟩
    rcases List.mem_append.mp hm with hm | hm
    · exact hi m hm
    · rw [List.mem_singleton.mp hm]
      exact Ne.symm h0
/-- a drawn value returned -/
theorem xr_retX (h : EvX K u k te M ds R) : XvR K u k (tRet te) M ds R := fun B D ps σ H n s hn q =>
  h B ps σ H n s hn _ fun v d H1 r D x => by
    obtain ⟨y, s1, c⟩ := s.draw D
    obtain ⟨h1, h2, h3, hb⟩ := XT.src s1
    have ex := s1.ex
    rw [hide_nil] at ex
    have sub : Ex (hide H1 (ps ++ [])) (hide H1 [u]) := fun a x e => by
      obtain ⟨ca, e⟩ := hide_some e
      rw [hide_out (fun m => ca (by rw [List.mem_singleton.mp m]; exact List.mem_append_left _ (List.mem_of_getElem? h1)))]
      exact e
    exact q v d H1 r ex (uc_urn h3 c) (x.mono sub)
/-- if c: return .., then the rest -/
theorem xr_ifRet {c : TT} {t t2 : TS} {P : Bool → Prop} (h : XbB K u k c M ds P) (h1 : P true → XvR K u l t M ds R) (h2 : P false → XvR K u l t2 M ds R) : XvR K u (k + l) (tSeq (tIfS c t tNext) t2) M ds R := fun B D ps σ H n s hn q =>
  h B ps σ H n s (by omega) _ fun b H2 p s2 => by
    cases b with
    | true =>
      refine iteT ?_
      exact h1 p B _ ps σ H2 (n + k) s2 (by omega) fun v d H' r e U x => q v d H' r e (by rw [← Nat.add_assoc]; exact U) x
    | false =>
      refine iteF ?_
      exact h2 p B D ps σ H2 (n + k) s2 (by omega) fun v d H' r e U x => q v d H' r e (by rw [← Nat.add_assoc]; exact U) x
/-- a def that draws nothing, called with drawn values -/
theorem eu_cal {o : List Addr} {iu n : Nat} {F : List PyData → PyData → Prop} {E : XK} {t : TA} (h : EvAU K o u iu t ds k S) (hS : ∀ es, S es → es.length = n ∧ ∃ d, R d ∧ F es d) : EvU K o u iu (tCall (spHide (spD K n F)) [] E t) ds k R := fun σ H n' E W A hn Q q =>
  h σ H n' E W A hn _ fun vs es H1 s D1 xs => by
    obtain ⟨hl, d, r, f⟩ := hS es s
    show spHide (spD K n F) (vs ++ []) H1 Q _
    rw [List.append_nil]
    refine ⟨o, D1.ow, es, d, xs, hl, f, fun v G e x g => q v d _ r (D1.trans (Dr.of (back_ex e) D1.ow D1.urn)) ?_⟩
    rw [back_hide g]
    exact x
/-- names for the parts of a drawn value -/
theorem xn_asgX {g : TG} {vs : List Nat} {ds1 : PyData → List (Option PyData)} (h : EvX K u k te M ds R) (hg : ∀ e, R e → GsD K vs g ds e (ds1 e)) (hi : ∀ m ∈ M, m.1 ∉ vs) (h0 : 0 ∉ vs) : XvN K u k (tAsg te g) M ds (fun M' ds' => M' = M ∧ ∃ e, R e ∧ ds' = ds1 e) := fun B D ps σ H n s hn q =>
  h B ps σ H n s hn _ fun v d H2 r Dr x => by
    obtain ⟨y, s1, c⟩ := s.draw Dr
    refine hg d r v σ H2 (ps ++ []) x s1.en _ fun σ' hs E' => q _ _ _ H2 ps ⟨rfl, d, r, rfl⟩ ⟨y, ⟨s1.ex, s1.ow, E', ?_, s1.nd⟩, c⟩
    have key : ∀ {M : ML} {qs : List Addr}, Mu K (hide H2 (ps ++ [])) H2 σ B [] M qs → (∀ m ∈ M, m.1 ∉ vs) → Mu K (hide H2 (ps ++ [])) H2 σ' B [] M qs := by
      intro M qs m
      induction m with
      | nil => intro _; exact .nil
      | cons a b c d f r ih =>
        intro hz
        refine .cons ?_ b c d f (ih fun m hm => hz m (List.mem_cons_of_mem _ hm))
        have z := wipe_get (σ := σ') (hz _ List.mem_cons_self)
        rw [hs, wipe_get (hz _ List.mem_cons_self)] at z
        exact z.symm.trans a
    refine key s1.mu fun m hm => ?_
    rcases List.mem_append.mp hm with hm | hm
    · exact hi m hm
    · rw [List.mem_singleton.mp hm]
      exact h0
theorem gs_four {i1 i2 i3 i4 : Nat} {vs : List Nat} {a b c d : PyData} (h1 : i1 ∈ vs) (h2 : i2 ∈ vs) (h3 : i3 ∈ vs) (h4 : i4 ∈ vs) : GsD K vs (gTup K 4 (gCons (gName i1) (gCons (gName i2) (gCons (gName i3) (gCons (gName i4) gNil))))) ds (.tuple [a, b, c, d]) ((((ds.set i1 (some a)).set i2 (some b)).set i3 (some c)).set i4 (some d)) := fun x σ H o hx E Q q => by
  obtain ⟨p, xs, rfl, hq, t⟩ := dd_tup hx
  cases t with
  | cons t1 t =>
    cases t with
    | cons t2 t =>
      cases t with
      | cons t3 t =>
        cases t with
        | cons t4 t =>
          cases t
          exact ⟨p, _, rfl, ex_sqT hide_ex hq, rfl, _, _, rfl, _, _, rfl, _, _, rfl, _, _, rfl, rfl, q _ (by rw [wipe_set h4, wipe_set h3, wipe_set h2, wipe_set h1]) ((((E.set t1 i1).set t2 i2).set t3 i3).set t4 i4)⟩
/-- a local's list is dropped: its name means nothing from here on -/
theorem xn_lose {t : TS} {S2 : ML → List (Option PyData) → Prop} {P : ML → List (Option PyData) → Prop} (h : XvN K u k t M ds P) (i : ∀ M' ds', P M' ds' → ∃ j, j < M'.length ∧ S2 (M'.eraseIdx j) ds') : XvN K u k t M ds S2 := fun B D ps σ H n s hn q =>
  h B D ps σ H n s hn fun M' ds' σ' H' ps' p s' => by
    obtain ⟨j, hj, s2⟩ := i M' ds' p
    obtain ⟨y, s3, c⟩ := s'
    have z := s3.lose j
    rw [show (XS M' u y).eraseIdx j = XS (M'.eraseIdx j) u y from List.eraseIdx_append_of_lt_length hj _] at z
    exact q _ _ _ _ _ s2 ⟨y, z, c⟩
def EiX (K : PySem.W.Frag) (u : Addr) (k : Nat) (wi : TI) (M : ML) (ds : List (Option PyData)) (S : List PyData → Prop) : Prop :=
  ∀ B ps σ H n, XT K B u M ps σ H ds n → n + k ≤ 100000 → ∀ R : It → Hp → Prop, (∀ J H2 es, S es → Dr H H2 (ps ++ []) u (n + k) → ItD K (hide H2 (ps ++ [])) J es → R J H2) → wi σ H R
theorem eix_U {wi : TI} (h : ∀ O, EiU K O u 0 wi ds k S) : EiX K u k wi M ds S := fun B ps σ H n s hn Q q => h (ps ++ []) σ H n s.en s.owA s.at hn Q q
theorem eix_rng {n0 : Nat} (h : ∀ x, EvM K [] (XS M u x) ta ds (.int n0)) (hn0 : n0 ≤ 1000000) : EiX K u 0 (iRng1 (tCons ta tNil)) M ds (fun es => es = rngD n0) := fun B ps σ H n s hn R r => by
  obtain ⟨x, s, c⟩ := s
  obtain ⟨h1, h2, h3, hb⟩ := XT.src s
  refine h x B ps σ H s _ fun v H2 s2 e y => ?_
  refine ⟨n0, by rw [dd_int y], ?_, ?_, ?_⟩
  · have h1 : (0 : Int) ≤ (n0 : Int) := Int.natCast_nonneg _
    exact Int.le_trans (by decide) h1
  · exact Int.lt_of_le_of_lt (show (n0 : Int) ≤ 1000000 by omega) (by decide)
  · exact r _ H2 (rngD n0) rfl (Dr.of e s.owA (uc_urn h3 c)) (by rw [Int.toNat_natCast]; exact it_rng)
/-- for x in xs, xs any list -/
theorem xn_forX {wi : TI} {tb : TS} {i : Nat} {xs : List PyData} (Inv : Nat → ML → List (Option PyData) → Prop) (hi : EiX K u k wi M ds (fun es => es = xs)) (inv0 : Inv 0 M ds) (i0 : i ≠ 0) (sl : ∀ j M ds, Inv j M ds → ∀ m ∈ M, m.1 ≠ i)
    (ht : ∀ j e M' ds', xs[j]? = some e → Inv j M' ds' → XvN K u l tb M' (ds'.set i (some e)) (fun M2 d2 => Inv (j + 1) M2 d2)) : XvN K u (k + xs.length * l) (tFor wi (gName i) tb) M ds (fun M' ds' => Inv xs.length M' ds') := fun B D ps σ H n s hn q =>
  hi B ps σ H n s (by omega) _ fun J H1 es hs Dr it => by
    subst hs
    obtain ⟨x1, s1, c1⟩ := s.draw Dr
    have xb := s1.inner.1
    refine ⟨fun j m σ' H' => m = es.length - j ∧ j ≤ es.length ∧ ∃ M' ds' ps' n', Inv j M' ds' ∧ n' ≤ n + k + j * l ∧ XT K (hide H1 (ps ++ [])) u M' ps' σ' H' ds' n', ⟨es.length, rfl, Nat.zero_le _, M, ds, ps, n + k, inv0, by omega, x1, s1.inner.2, c1⟩, fun j m σ' H' w => ?_⟩
    obtain ⟨rfl, hj, M', ds', ps', n', iv, hn', x, s', c⟩ := w
    have it2 := it H' (ps' ++ []) s'.inner.1 s'.owA j
    have mulj : j * l ≤ es.length * l := Nat.mul_le_mul_right l hj
    by_cases cl : j < es.length
    · have he : es[j]? = some es[j] := List.getElem?_eq_getElem cl
      obtain ⟨go, yl⟩ := it2.1 _ he
      refine .inr ⟨go, fun σ2 H2 => ∃ M2 d2 p2 n2, Inv (j + 1) M2 d2 ∧ n2 ≤ n + k + (j + 1) * l ∧ XT K (hide H1 (ps ++ [])) u M2 p2 σ2 H2 d2 n2, fun σ2 H2 z => ⟨es.length - (j + 1), by omega, rfl, by omega, z⟩, fun v H2 y => ?_⟩
      obtain ⟨ex2, hx⟩ := yl v H2 y
      have s2 := (s'.to ex2).set (i := i) hx fun m hm => by
        rcases List.mem_append.mp hm with hm | hm
        · exact sl j M' ds' iv m hm
        · rw [List.mem_singleton.mp hm]
          exact Ne.symm i0
      have e1 : (j + 1) * l = j * l + l := by rw [Nat.add_mul, Nat.one_mul]
      have mulj2 : (j + 1) * l ≤ es.length * l := Nat.mul_le_mul_right l (by omega)
      refine ht j _ M' ds' he iv _ _ ps' _ H2 n' ⟨x, s2, c⟩ (by omega) fun M2 d2 σ4 H4 p4 iv2 s4 => ⟨M2, d2, p4, n' + l, iv2, by omega, s4⟩
    · have ej : j = es.length := by omega
      refine .inl ⟨it2.2 (by omega), q M' ds' σ' H' ps' (ej ▸ iv) ?_⟩
      exact XT.up ⟨x, s'.base xb, c⟩ (by omega)
end
end Ph
namespace K13
open PySem Ph
def atm : PyData → Prop
  | .int i => i < 99
  | .bool _ => True
  | .none => True
  | .str x => x = "0"
  | _ => False
def fine : Nat → Nat → PyData → Prop
  | 0, _, d => atm d
  | n + 1, m, d => atm d ∨ ∃ es, (d = .tuple es ∨ d = .list es) ∧ es.length ≤ m ∧ ∀ e ∈ es, fine n m e
theorem fine_atm {n m : Nat} {d : PyData} (h : atm d) : fine n m d := by
  cases n with
  | zero => exact h
  | succ n => exact .inl h
theorem fine_tup {n m : Nat} {es : List PyData} (hl : es.length ≤ m) (h : ∀ e ∈ es, fine n m e) : fine (n + 1) m (.tuple es) := .inr ⟨es, .inl rfl, hl, h⟩
theorem fine_lst {n m : Nat} {es : List PyData} (hl : es.length ≤ m) (h : ∀ e ∈ es, fine n m e) : fine (n + 1) m (.list es) := .inr ⟨es, .inr rfl, hl, h⟩
theorem fine_sub {n m : Nat} {es : List PyData} (h : fine n m (.tuple es)) : ∃ k, n = k + 1 ∧ es.length ≤ m ∧ ∀ e ∈ es, fine k m e := by
  cases n with
  | zero => cases h
  | succ n =>
    rcases h with h | ⟨fs, e | e, hl, h⟩
    · cases h
    · cases e; exact ⟨n, rfl, hl, h⟩
    · cases e
theorem fine_mono : ∀ {n m n2 m2 : Nat} {d : PyData}, n ≤ n2 → m ≤ m2 → fine n m d → fine n2 m2 d
  | 0, _, _, _, _, _, _, h => fine_atm h
  | n + 1, m, n2, m2, d, a, b, h => by
    rcases h with h | ⟨es, e, hl, h⟩
    · exact fine_atm h
    · cases n2 with
      | zero => omega
      | succ n2 => exact .inr ⟨es, e, by omega, fun x hx => fine_mono (by omega) b (h x hx)⟩
theorem atm_shape {d : PyData} (h : atm d) : d.canLay0 = true ∧ d.depth = 0 := by
  cases d with
  | str x => cases h; exact ⟨by rw [PyData.canLay0]; decide +kernel, by rw [PyData.depth]⟩
  | int _ => exact ⟨by rw [PyData.canLay0], by rw [PyData.depth]⟩
  | bool _ => exact ⟨by rw [PyData.canLay0], by rw [PyData.depth]⟩
  | none => exact ⟨by rw [PyData.canLay0], by rw [PyData.depth]⟩
  | _ => cases h
theorem fine_shape : ∀ {n m : Nat} {d : PyData}, fine n m d → d.canLay0 = true ∧ d.depth ≤ n
  | 0, _, _, h => ⟨(atm_shape h).1, Nat.le_of_eq (atm_shape h).2⟩
  | n + 1, m, d, h => by
    rcases h with h | ⟨es, e, hl, h⟩
    · exact ⟨(atm_shape h).1, by rw [(atm_shape h).2]; omega⟩
    · have z : PyData.canLayAll0 es = true ∧ PyData.depthAll es ≤ n := by
        clear hl e
        induction es with
        | nil => exact ⟨by rw [PyData.canLayAll0], by rw [PyData.depthAll]; omega⟩
        | cons x xs ih =>
          have a := fine_shape (h x List.mem_cons_self)
          have b := ih fun y hy => h y (List.mem_cons_of_mem _ hy)
          exact ⟨by rw [PyData.canLayAll0, a.1, b.1]; rfl, by rw [PyData.depthAll]; omega⟩
      rcases e with rfl | rfl
      · exact ⟨by rw [PyData.canLay0]; exact z.1, by rw [PyData.depth]; omega⟩
      · exact ⟨by rw [PyData.canLay0]; exact z.1, by rw [PyData.depth]; omega⟩
theorem fine_shaped {n m : Nat} {d : PyData} (h : fine n m d) (hn : n ≤ 64) : SeqAt.shaped d = true := by
  have z := fine_shape h
  unfold SeqAt.shaped
  rw [Bool.and_eq_true]
  exact ⟨z.1, decide_eq_true (by omega)⟩
theorem fine_short {n m : Nat} {d : PyData} (h : fine n m d) (hm : m ≤ 1000) : short d := by
  cases n with
  | zero => cases d <;> first | exact True.intro | cases h
  | succ n =>
    rcases h with h | ⟨es, e | e, hl, h⟩
    · cases d <;> first | exact True.intro | cases h
    · cases e; exact Nat.le_trans hl hm
    · cases e; exact Nat.le_trans hl hm
theorem fine_shorts {m : Nat} (hm : m ≤ 1000) : ∀ {k n : Nat} {d : PyData}, fine n m d → shorts k d
  | 0, _, _, h => fine_short h hm
  | k + 1, n, d, h => by
    refine ⟨fine_short h hm, ?_⟩
    cases d with
    | tuple es =>
      obtain ⟨j, rfl, _, z⟩ := fine_sub h
      exact fun e he => fine_shorts hm (z e he)
    | _ => exact True.intro
theorem fine_below {n m : Nat} {d : PyData} (h : fine n m d) : below 99 d := fun ns hn x hx => by
  have e := nums_eq hn
  subst e
  obtain ⟨k, rfl, _, z⟩ := fine_sub h
  have f := z (.int x) (List.mem_map.mpr ⟨x, hx, rfl⟩)
  cases k with
  | zero => exact f
  | succ k =>
    rcases f with f | ⟨es, e | e, _⟩
    · exact f
    · cases e
    · cases e
theorem fine_book {n m : Nat} {d : PyData} (h : fine n m d) (hm : m ≤ 1000) (hn : n ≤ 64) : F_is_book [d] = some (.bool (bookOk d)) ∧ F__law_is_book [d] = some (.bool (bookOk d)) := by
  refine ⟨book_ok d (fine_shorts hm h), lbook_ok d (fine_shorts hm h) ?_ ?_⟩
  · intro e he
    cases d with
    | tuple es => obtain ⟨k, rfl, _, z⟩ := fine_sub h; exact fine_shaped (z e he) (by omega)
    | _ => cases he
  · intro e he
    cases d with
    | tuple es => obtain ⟨k, rfl, _, z⟩ := fine_sub h; exact fine_below (z e he)
    | _ => cases he
theorem fine_stand {as : List PyData} {hs : List Int} {b r : PyData} {n m : Nat} {d : PyData} (h : fine n m d) (hm : m ≤ 1000) (hn : n ≤ 64) : F_is_stand [bk as hs b r, d] = some (.bool (stOk as.length hs.length d)) ∧ F__law_is_stand [bk as hs b r, d] = some (.bool (stOk as.length hs.length d)) := by
  refine ⟨stand_ok as hs b r d (fine_shorts hm h), lstand_ok as hs b r d (fine_shorts hm h) ?_⟩
  intro e he
  cases d with
  | tuple es => obtain ⟨k, rfl, _, z⟩ := fine_sub h; exact fine_shaped (z e he) (by omega)
  | _ => cases he
theorem cutD_mem {es : List PyData} {lo hi : Option Int} {e : PyData} (h : e ∈ cutD es lo hi) : e ∈ es := List.mem_of_mem_drop (List.mem_of_mem_take h)
theorem cutD_len {es : List PyData} {lo hi : Option Int} : (cutD es lo hi).length ≤ es.length := by
  unfold cutD
  rw [List.length_take, List.length_drop]
  omega
def putD (es : List PyData) (a : Int) (x : PyData) : List PyData := cutD es none (some a) ++ [x] ++ cutD es (some (a + 1)) none
theorem put_ok {es : List PyData} {a : Int} {x : PyData} (hl : es.length ≤ 1000) : F__law_put [.tuple es, .int a, x] = some (.tuple (putD es a x)) := by
  have l1 := cutD_len (es := es) (lo := none) (hi := some a)
  have l2 := cutD_len (es := es) (lo := some (a + 1)) (hi := none)
  unfold F__law_put
  refine def_ret (?_ : fOp _ _ _ _ = _)
  refine op_ok (x := .tuple (cutD es none (some a) ++ [x])) (y := .tuple (cutD es (some (a + 1)) none)) (op_ok (x := .tuple (cutD es none (some a))) (y := .tuple [x]) rfl rfl ?_) rfl ?_
  · show (if _ then _ else _) = _
    rw [if_pos (by rw [List.length_cons, List.length_nil]; omega)]
  · show (if _ then _ else _) = _
    rw [if_pos (by rw [List.length_append, List.length_cons, List.length_nil]; omega)]
    rfl
theorem put_mem {es : List PyData} {a : Int} {x e : PyData} (h : e ∈ putD es a x) : e ∈ es ∨ e = x := by
  unfold putD at h
  rcases List.mem_append.mp h with h | h
  · rcases List.mem_append.mp h with h | h
    · exact .inl (cutD_mem h)
    · exact .inr (List.mem_singleton.mp h)
  · exact .inl (cutD_mem h)
theorem put_len {es : List PyData} {a : Int} {x : PyData} : (putD es a x).length ≤ 2 * es.length + 1 := by
  have l1 := cutD_len (es := es) (lo := none) (hi := some a)
  have l2 := cutD_len (es := es) (lo := some (a + 1)) (hi := none)
  unfold putD
  rw [List.length_append, List.length_append, List.length_cons, List.length_nil]
  omega
theorem fine_put {n m m2 : Nat} {es : List PyData} {a : Int} {x : PyData} (h : ∀ e ∈ es, fine n m e) (hx : fine n m2 x) (hl : es.length ≤ m) (hm : 2 * m + 1 ≤ m2) : fine (n + 1) m2 (.tuple (putD es a x)) :=
  fine_tup (Nat.le_trans put_len (by omega)) fun e he => by
    rcases put_mem he with he | rfl
    · exact fine_mono (Nat.le_refl _) (by omega) (h e he)
    · exact hx
def gk (l : Int) : PyData → Bool
  | .tuple [_, .int o] => decide (o = l)
  | _ => false
def gf1 : PyData → PyData
  | .tuple [a, _] => a
  | _ => .none
def goods (hs : List Int) (l : Int) : List PyData := ((enumD (hs.map PyData.int)).filter (gk l)).map gf1
theorem enumD_len (es : List PyData) : (enumD es).length = es.length := by unfold enumD; rw [List.length_mapIdx]
theorem enumD_ints {hs : List Int} {p : PyData} (h : p ∈ enumD (hs.map PyData.int)) : ∃ i : Nat, i < hs.length ∧ p = .tuple [.int (i : Nat), .int (hs.getD i 0)] := by
  obtain ⟨k, e, h1, rfl⟩ := enum_mem h
  rw [List.getElem?_map] at h1
  obtain ⟨x, hx, rfl⟩ := Option.map_eq_some_iff.mp h1
  refine ⟨k, (List.getElem?_eq_some_iff.mp hx).1, ?_⟩
  rw [List.getD_eq_getElem?_getD, hx]
  rfl
theorem goods_ok {hs : List Int} {l : Int} {ds w : SEnv} {f fl : SEnv → Option PyData} {a b : Nat} (hf : f ds = some (.list (hs.map PyData.int))) (hw : wipeD ds [a, b] = w) (len : hs.length ≤ 1000)
    (hx : ∀ x y, let e := (w.set a (some x)).set b (some y); fVar a e = some x ∧ fVar b e = some y ∧ fl e = some (.int l)) :
    fLc (wkEL f) (tgTwo a b) (fTest (fOp gEqI (fVar b) fl)) (fVar a) [a, b] ds = some (.list (goods hs l)) := by
  unfold fLc
  have q : wkEL f ds = some (enumD (hs.map PyData.int)) := by
    unfold wkEL wkL
    rw [hf]; rfl
  rw [q, Option.bind_some, if_pos (by rw [enumD_len, List.length_map]; omega), hw, lc_map (f := fun _ x => gf1 x) (k := gk l) (g := gf1) fun p m => by
    obtain ⟨i, hi, rfl⟩ := enumD_ints m
    obtain ⟨h1, h2, h3⟩ := hx (.int i) (.int (hs.getD i 0))
    exact ⟨_, rfl, test_ok (op_ok h2 h3 rfl), fun _ => h1⟩]
  rfl
theorem goods_mem {hs : List Int} {l : Int} {d : PyData} (h : d ∈ goods hs l) : ∃ i : Nat, i < hs.length ∧ d = .int (i : Nat) ∧ hs.getD i 0 = l := by
  obtain ⟨p, hp, rfl⟩ := List.mem_map.mp h
  obtain ⟨hp, k⟩ := List.mem_filter.mp hp
  obtain ⟨i, hi, rfl⟩ := enumD_ints hp
  exact ⟨i, hi, rfl, of_decide_eq_true k⟩
theorem goods_len {hs : List Int} {l : Int} : (goods hs l).length ≤ hs.length := by
  unfold goods
  rw [List.length_map]
  have := List.length_filter_le (gk l) (enumD (hs.map PyData.int))
  rw [enumD_len, List.length_map] at this
  exact this
theorem goods_pos {hs : List Int} {l : Int} (h : l ∈ hs) : 1 ≤ (goods hs l).length := by
  obtain ⟨i, hi, e⟩ := List.getElem_of_mem h
  have m : PyData.int (i : Nat) ∈ goods hs l := by
    refine List.mem_map.mpr ⟨.tuple [.int (i : Nat), .int l], List.mem_filter.mpr ⟨?_, by simp [gk]⟩, rfl⟩
    unfold enumD
    refine List.mem_mapIdx.mpr ⟨i, by rw [List.length_map]; exact hi, ?_⟩
    rw [List.getElem_map, e]
  exact List.length_pos_of_mem m
end K13
namespace K13
open PySem PySem.Spec PyProof.Rows L2 Ph
section
variable {P : Program} {w : World} {K : PySem.W.Frag} {mg : Str → Option Value} {base : Heap}
theorem ltS {n : Nat} (h : n ≤ 100000) : n < sizeLine := Nat.lt_of_le_of_lt h (by decide)
theorem getPerm {α : Type} : ∀ {l : List α} {i : Nat} (h : i < l.length), (l[i] :: l.eraseIdx i).Perm l
  | x :: xs, 0, h => List.Perm.refl _
  | x :: xs, i + 1, h => (List.Perm.swap _ _ _).trans ((getPerm (l := xs) (i := i) (Nat.lt_of_succ_lt_succ h)).cons x)
theorem ne_ {a b : Nat} (h : (a == b) = false) : a ≠ b := fun z => by rw [z, beq_self_eq_true] at h; cases h
abbrev s__law_pick : Stmt := top 24
abbrev N__law_pick : List Str := ["urn", "goods", "count", "pool", "found", "lap"]
theorem sc__law_pick : FnScope N__law_pick ["urn", "goods", "count"] (defScope s__law_pick) := ⟨rfl, rfl, rfl, by decide +kernel, rfl, by decide +kernel, by decide +kernel⟩
abbrev pre_pick : List PyData → Prop := fun as => ∃ es : List PyData, as = [.list es, .int (es.length : Nat)] ∧ 1 ≤ es.length ∧ es.length ≤ 20
abbrev R_pick : List PyData → PyData → Prop := fun as d => ∃ es fs : List PyData, as = [.list es, .int (es.length : Nat)] ∧ d = .list fs ∧ fs.Perm es
theorem ok__law_pick {f : Addr} {fd : FuncData} (F : Fun K "_law_pick" "_law_pick" s__law_pick f fd) (T : Blt mg) (Z : Blt2 mg) (C__law_take : Cal P w K mg base "_law_take" 1 ["urn", "low_so"] (spU K 1 1 pre_take R_take)) : FnOk P w K mg base CX0 2 f fd ["urn", "goods", "count"] (spU K 2 20 pre_pick R_pick) := by
  refine fn_draw F sc__law_pick rfl fun cdv A outer s H E hr => ?_
  have hu64 : (A.deeper (envOfC "_law_pick" (defScope s__law_pick) s.heap.objs.size f cdv)).units + 64 < cLine := hr.units
  refine ⟨_, (pss_cons (ps_par (i := 3) (j := 4) (by rfl) sc__law_pick.nd rfl rfl (by decide) rfl rfl (pa_cons (pe_callTy call_list_of (by rfl) T.list (by decide +kernel) (pa_cons (pv 1) pa_nil)) (pa_cons (pe_lst pa_nil) pa_nil)) (by rfl))
      (pss_cons (ps_for PassesOwn.never rfl (pi_range1 rfl T.range (pa_cons (pe_callB (call_min2 rfl) (by rfl) Z.min (by decide +kernel) (pa_cons (pe_callTy call_int1 (by rfl) T.int (by decide +kernel) (pa_cons (pv 2) pa_nil)) (pa_cons (pe_callB call_len_seq (by rfl) T.len PySem.boot_len (pa_cons (pv 3) pa_nil)) pa_nil))) pa_nil)) (pg_name (i := 5) sc__law_pick.nd rfl (Or.inl rfl)) (pss_one (ps_expr (pe_bm PySem.F.plainAttrs_list PySem.F.slot_list_append PySem.F.type_list_append mt_append (pv 4) (pa_cons (pe_bm PySem.F.plainAttrs_list PySem.F.slot_list_pop PySem.F.type_list_pop mt_popAt (pv 3) (pa_cons (pe_cal C__law_take (hr.mono (by decide)) (by rfl) (pa_cons (pv 0) (pa_cons (pe_callB call_len_seq (by rfl) T.len PySem.boot_len (pa_cons (pv 3) pa_nil)) pa_nil))) pa_nil)) pa_nil)))))
      (pss_one (ps_ret (pv 4))))), fun u as hl hp => ?_⟩
  obtain ⟨es, rfl, l1, l2⟩ := hp
  refine su_x (xr_more (k := 0 + (es.length + 0)) (xr_seq (k := 0) (xn_pure (M' := [(4, .l []), (3, .l es)]) (ds' := [none, some (.list es), some (.int (es.length : Nat)), none, none, none]) fun x => mn_par2 (i := 3) (j := 4) (en_list fun O => ef_lstL (ev_var (by rfl))) (fun O => ef_lst ea_nil (by decide)) (fun m hm => by cases List.mem_singleton.mp hm; exact ne_ rfl) (fun m hm => by cases List.mem_singleton.mp hm; exact ne_ rfl) (by decide) (by show 3 < 6; decide) (by show 4 < 6; decide)) fun M' ds' h => ?_) (by omega)) rfl
  obtain ⟨rfl, rfl⟩ := h
  refine xr_seq (k := es.length) (xn_imp (xn_forX (i := 5) (l := 1) (xs := rngD es.length) (fun j M ds => ∃ pool found x, M = [(4, .l found), (3, .l pool)] ∧ found.length = j ∧ (found ++ pool).Perm es ∧ ds = [none, some (.list es), some (.int (es.length : Nat)), none, none, x]) (eix_rng (n0 := es.length) (fun x => em_full ?_ (fz_scal rfl)) (by omega)) ⟨es, [], none, rfl, rfl, List.Perm.refl _, rfl⟩ (by decide) ?sl ?ht) (fun M' ds' h => h) (by rw [rngD_len]; omega)) fun M' ds' h => ?_
  · have z := (xf_cb (K := K) (af_cons (xf_cb (K := K) (af_cons (xf_var (i := 2)) af_nil) hf_int) (af_cons (xf_cb (K := K) (af_cons (xf_var (i := 3)) af_nil) hf_len) af_nil)) hf_min2) [] (fill [none, some (.list es), some (.int (es.length : Nat)), none, none, none] (XS [(4, .l []), (3, .l es)] u x)) (.int (if (es.length : Int) < (es.length : Int) then (es.length : Int) else (es.length : Int))) rfl
    rw [if_neg (by omega)] at z
    exact z
  case sl =>
    rintro j M ds ⟨pool, found, x, rfl, _, _, rfl⟩ m hm
    simp only [List.mem_cons, List.not_mem_nil, or_false] at hm
    rcases hm with rfl | rfl <;> exact ne_ rfl
  case ht =>
    rintro j e M ds he ⟨pool, found, x, rfl, fl, pm, rfl⟩
    have hj : j < es.length := by have := (List.getElem?_eq_some_iff.mp he).1; rwa [rngD_len] at this
    have pl := pm.length_eq
    rw [List.length_append] at pl
    refine xn_imp (xn_popAppX (j := 0) (j2 := 1) (i := 4) (i2 := 3) (es := found) (fs := pool) rfl rfl (by decide) (evx_imp (evx_callI (nn := (pool.length : Nat)) (fun x => em_full (ev_cb (ea_cons (ev_var (by rfl)) ea_nil) cb_lenL) (fz_scal rfl)) rfl ⟨(pool.length : Nat), rfl, by omega, by omega⟩) (fun d h => ?_) (Nat.le_refl _)) (ltS (by omega)) (by omega)) (fun M2 d2 h => ?_) (Nat.le_refl _)
    · obtain ⟨low, r, e1, rfl, r0, r1⟩ := h
      cases e1
      obtain ⟨m, rfl⟩ := Int.eq_ofNat_of_zero_le r0
      exact ⟨m, by omega, rfl⟩
    · obtain ⟨rfl, m, e, he, rfl⟩ := h
      obtain ⟨hm, rfl⟩ := List.getElem?_eq_some_iff.mp he
      refine ⟨pool.eraseIdx m, found ++ [pool[m]], _, rfl, by rw [List.length_append, fl]; rfl, ?_, rfl⟩
      rw [List.append_assoc]
      exact (List.Perm.append_left found (getPerm hm)).trans pm
  · obtain ⟨pool, found, x, rfl, fl, pm, rfl⟩ := h
    rw [rngD_len] at fl
    have pl := pm.length_eq
    rw [List.length_append] at pl
    have : pool = [] := List.length_eq_zero_iff.mp (by omega)
    subst this
    rw [List.append_nil] at pm
    exact xr_retL (j := 0) (i := 4) rfl ⟨es, found, rfl, rfl, pm⟩
abbrev s__law_own_map : Stmt := top 26
abbrev N__law_own_map : List Str := ["urn", "hues", "found", "letter", "goods", "k", "own"]
theorem sc__law_own_map : FnScope N__law_own_map ["urn", "hues"] (defScope s__law_own_map) := ⟨rfl, rfl, rfl, by decide +kernel, rfl, by decide +kernel, by decide +kernel⟩
abbrev iL (hs : List Int) : PyData := .list (hs.map PyData.int)
abbrev pre_map : List PyData → Prop := fun as => ∃ hs : List Int, as = [iL hs] ∧ hs.length ≤ 10
abbrev R_map : List PyData → PyData → Prop := fun as d => ∃ hs ms : List Int, as = [iL hs] ∧ d = hT ms ∧ ms.length = hs.length ∧ mapOk hs d = true ∧ ∀ m ∈ ms, 0 ≤ m ∧ m < hs.length
theorem ok__law_own_map {f : Addr} {fd : FuncData} (F : Fun K "_law_own_map" "_law_own_map" s__law_own_map f fd) (T : Blt mg) (Z : Blt2 mg) (C__law_of : Cal P w K mg base "_law_of" 2 ["urn", "goods"] (spU K 1 1 pre_of R_of)) : FnOk P w K mg base CX0 3 f fd ["urn", "hues"] (spU K 1 10 pre_map R_map) := by
  refine fn_draw F sc__law_own_map rfl fun cdv A outer s H E hr => ?_
  have hu64 : (A.deeper (envOfC "_law_own_map" (defScope s__law_own_map) s.heap.objs.size f cdv)).units + 64 < cLine := hr.units
  refine ⟨_, (pss_cons (ps_set (i := 2) sc__law_own_map.nd rfl (Or.inl rfl) (pe_lst pa_nil))
      (pss_cons (ps_for PassesOwn.never rfl (pi_list (pv 1)) (pg_name (i := 3) sc__law_own_map.nd rfl (Or.inr rfl)) (pss_cons (ps_setLc (i := 4) (own := [("k", 5), ("own", 6)]) (g := (gTup K 2 (gCons (gName 5) (gCons (gName 6) gNil)))) (tt := (tTest (tOp _ (tVar 6) (tVar 3)))) (te := (tVar 5)) rfl sc__law_own_map.nd rfl rfl (sw_true rfl rfl rfl (by decide +kernel)) (pi_enum (by rfl) T.enumerate (pa_cons (pv 1) pa_nil)) (blkOk_by (N := N__law_own_map) (sc := defScope s__law_own_map) (by decide +kernel)) (fun _ _ _ _ _ => by exact (pg_tup rfl (pgs_cons (pg_name (i := 5) sc__law_own_map.nd rfl (Or.inl rfl)) (pgs_cons (pg_name (i := 6) sc__law_own_map.nd rfl (Or.inl rfl)) pgs_nil)))) (fun _ _ _ _ _ => by exact (pts_one (pt_cmpR op_eq (pv 6) (pv 3) (nomark _)))) (fun _ _ _ _ _ => by exact (pv 5)))
      (pss_one (ps_expr (pe_bm PySem.F.plainAttrs_list PySem.F.slot_list_append PySem.F.type_list_append mt_append (pv 2) (pa_cons (pe_cal C__law_of (hr.mono (by decide)) (by rfl) (pa_cons (pv 0) (pa_cons (pv 4) pa_nil))) pa_nil))))))
      (pss_one (ps_ret (pe_callTy call_tuple_of (by rfl) T.tuple (by decide +kernel) (pa_cons (pv 2) pa_nil)))))), fun u as hl hp => ?_⟩
  obtain ⟨hs, rfl, l2⟩ := hp
  refine su_x (xr_more (k := 0 + (hs.length + 0)) (xr_seq (k := 0) (xn_pure (M' := [(2, .l [])]) (ds' := [none, some (iL hs), none, none, none, none, none]) fun x => mn_new (i := 2) (fun O => ef_lst ea_nil (by decide)) (fun m hm => by cases List.mem_singleton.mp hm; exact ne_ rfl) (by show 2 < 7; decide)) fun M' ds' h => ?_) (by omega)) rfl
  obtain ⟨rfl, rfl⟩ := h
  refine xr_seq (k := hs.length) (xn_imp (xn_forX (i := 3) (l := 1) (xs := hs.map PyData.int) (fun j M ds => ∃ (ms : List Int) (x y z t : Option PyData), M = [(2, .l (ms.map PyData.int))] ∧ ms.map (fun m => hs.getD m.toNat 0) = hs.take j ∧ (∀ m ∈ ms, 0 ≤ m ∧ m < hs.length) ∧ ds = [none, some (iL hs), none, x, y, z, t]) (eix_U fun O => eiu_pure (ei_lst (ev_var (by rfl)))) ⟨[], none, none, none, none, rfl, rfl, fun m hm => (by cases hm), rfl⟩ (by decide) ?sl ?ht) (fun M' ds' h => h) (by rw [List.length_map]; omega)) fun M' ds' h => ?_
  case sl =>
    rintro j M ds ⟨ms, x, y, z, t, rfl, _, _, rfl⟩ m hm
    cases List.mem_singleton.mp hm
    exact ne_ rfl
  case ht =>
    rintro j e M ds he ⟨ms, x, y, z, t, rfl, em, rg, rfl⟩
    rw [List.getElem?_map] at he
    obtain ⟨l, hl2, rfl⟩ := Option.map_eq_some_iff.mp he
    have lm : l ∈ hs := List.mem_of_getElem? hl2
    have hj := (List.getElem?_eq_some_iff.mp hl2).1
    have ml : ms.length = j := by
      have := congrArg List.length em
      rw [List.length_map, List.length_take] at this
      omega
    have gp := goods_pos lm
    have gl := goods_len (hs := hs) (l := l)
    refine xn_imp (k := 0 + 1) (xn_seq (xn_set (i := 4) (R := fun d => d = .list (goods hs l)) (fun O => eu_pure ((xf_lc (wf_enL xf_var) gf_two (gw_two (by simp) (by simp)) (bf_test (xf_op xf_var xf_var of_eqI)) xf_var) O _ _ (goods_ok (hs := hs) (l := l) (f := fVar 1) (fl := fVar 3) (a := 5) (b := 6) (w := [none, some (iL hs), none, some (.int l), y, none, none]) rfl rfl (by omega) fun x y => ⟨rfl, rfl, rfl⟩))) (fun m hm => by cases List.mem_singleton.mp hm; exact ne_ rfl) (by decide)) fun M2 d2 h => ?_) (fun M2 d2 h => h) (Nat.le_refl _)
    obtain ⟨rfl, d, rfl, rfl⟩ := h
    refine xn_imp (xn_append (j := 0) (i := 2) (es := ms.map PyData.int) rfl (fun O => eu_call (ea_cons (ev_var (by rfl)) ea_nil) rfl ⟨goods hs l, rfl, gp, by omega⟩) (by rw [List.length_map]; exact ltS (by omega))) (fun M2 d2 h => ?_) (Nat.le_refl _)
    obtain ⟨rfl, e, ⟨es, e1, hm⟩, rfl⟩ := h
    cases e1
    obtain ⟨i, hi, rfl, g⟩ := goods_mem hm
    refine ⟨ms ++ [(i : Int)], _, _, _, _, by rw [List.map_append]; rfl, ?_, fun m hm => ?_, rfl⟩
    · rw [List.map_append, em, List.take_add_one, hl2]
      show _ ++ [hs.getD (i : Int).toNat 0] = _ ++ [l]
      rw [Int.toNat_natCast, g]
    · rcases List.mem_append.mp hm with hm | hm
      · exact rg m hm
      · rw [List.mem_singleton.mp hm]
        exact ⟨by omega, by omega⟩
  · obtain ⟨ms, x, y, z, t, rfl, em, rg, rfl⟩ := h
    rw [List.length_map, List.take_length] at em
    have ml : ms.length = hs.length := by
      have := congrArg List.length em
      rwa [List.length_map] at this
    refine xr_retX (evx_imp (evx_M (d := hT ms) fun x => em_full (ev_cb (ea_cons (ev_var (by rfl)) ea_nil) cb_tupL) fz_nums) (fun d h => ?_) (Nat.le_refl _))
    subst h
    refine ⟨hs, ms, rfl, rfl, ml, ?_, rg⟩
    show (match nums? (hT ms) with | some ms => (ms.all fun m => decide (0 ≤ m) && decide (m < hs.length)) && decide (ms.map (fun m => hs.getD m.toNat 0) = hs) | none => false) = true
    rw [nums_tup]
    show ((ms.all fun m => decide (0 ≤ m) && decide (m < hs.length)) && decide (ms.map (fun m => hs.getD m.toNat 0) = hs)) = true
    rw [Bool.and_eq_true]
    exact ⟨List.all_eq_true.mpr fun m hm => by rw [Bool.and_eq_true]; exact ⟨decide_eq_true (rg m hm).1, decide_eq_true (rg m hm).2⟩, decide_eq_true em⟩
end
end K13
namespace K13
open PySem PySem.Spec PyProof.Rows L2 Ph
section
variable {P : Program} {w : World} {K : PySem.W.Frag} {mg : Str → Option Value} {base : Heap}
abbrev s__law_bent : Stmt := top 37
abbrev N__law_bent : List Str := ["urn", "thing", "way", "at"]
theorem sc__law_bent : FnScope N__law_bent ["urn", "thing"] (defScope s__law_bent) := ⟨rfl, rfl, rfl, by decide +kernel, rfl, by decide +kernel, by decide +kernel⟩
abbrev pre_bent (m N : Nat) : List PyData → Prop := fun as => ∃ n d, N = n + 1 ∧ as = [d] ∧ fine n m d
abbrev R_bent (m N : Nat) : List PyData → PyData → Prop := fun _ e => fine N (3 * m) e
def atoms : List PyData := [.int 0, .int 1, .int 2, .int 3, .int (-1), .bool true, .bool false, .none, .str "0", .tuple [], .tuple [.int 0], .tuple [.int 0, .int 1]]
theorem atoms_fine {d : PyData} (h : d ∈ atoms) {n m : Nat} (hm : 2 ≤ m) : fine (n + 1) m d := by
  unfold atoms at h
  simp only [List.mem_cons, List.not_mem_nil, or_false] at h
  rcases h with rfl | rfl | rfl | rfl | rfl | rfl | rfl | rfl | rfl | rfl | rfl | rfl
  iterate 5 (exact fine_atm (by show (_ : Int) < 99; decide))
  iterate 3 (exact fine_atm True.intro)
  · exact fine_atm rfl
  · exact fine_tup (Nat.zero_le _) fun e he => by cases he
  · exact fine_tup (by show 1 ≤ m; omega) fun e he => by cases List.mem_singleton.mp he; exact fine_atm (by show (_ : Int) < 99; decide)
  · refine fine_tup (by show 2 ≤ m; omega) fun e he => ?_
    simp only [List.mem_cons, List.not_mem_nil, or_false] at he
    rcases he with rfl | rfl <;> exact fine_atm (by show (_ : Int) < 99; decide)
theorem xf_neg1 : Evf K (tUn (rU fun i => .int (-i)) (tC (.int 1))) (fC (.int (-1))) := fun o ds d h => by cases h; exact ev_neg ev_int
theorem xn_tt {u : Addr} {k : Nat} {t : TT} {M : ML} {ds : List (Option PyData)} {P : Bool → Prop} (h : XbB K u k t M ds P) : XbB K u k t M ds (fun _ => True) := fun B ps σ H n s hn Q q => h B ps σ H n s hn Q fun b H2 _ s2 => q b H2 True.intro s2
theorem no_m {j : Nat} : ∀ m ∈ ([] : ML), m.1 ≠ j := fun m hm => by cases hm
theorem ok__law_bent {f : Addr} {fd : FuncData} (F : Fun K "_law_bent" "_law_bent" s__law_bent f fd) (T : Blt mg) (Z : Blt2 mg) (gf : mg "_law_bent" = some (.ref f)) (kf : PySem.W.keepIn K (.ref f) = true) (bf : Binds K fd ["urn", "thing"] []) (C__law_take : Cal P w K mg base "_law_take" 1 ["urn", "low_so"] (spU K 1 1 pre_take R_take)) (C__law_of : Cal P w K mg base "_law_of" 2 ["urn", "goods"] (spU K 1 1 pre_of R_of)) (C__law_put : Cal P w K mg base "_law_put" 1 ["row", "at", "thing"] (spD K 3 fun as d => F__law_put as = some d)) (m : Nat) (hm : 2 ≤ m) (hM : m ≤ 300) :
    ∀ N : Nat, N ≤ 60 → FnOk P w K mg base CX0 (2 + N) f fd ["urn", "thing"] (spU K 1 (4 * N) (pre_bent m N) (R_bent m N)) := by
  intro N
  induction N with
  | zero => exact fun _ => ⟨fun vs H Q E h => (by obtain ⟨u, k, us, as, _, _, _, _, _, ⟨n, d, z, _⟩, _⟩ := h; cases z), fun A outer s H args us vs Q E hr e0 hb hv h => (by obtain ⟨u, k, us, as, _, _, _, _, _, ⟨n, d, z, _⟩, _⟩ := h; cases z)⟩
  | succ N ih =>
    intro hN
    have C__law_bent : Cal P w K mg base "_law_bent" (2 + N) ["urn", "thing"] (spU K 1 (4 * N) (pre_bent m N) (R_bent m N)) := ⟨f, fd, gf, kf, bf, ih (by omega)⟩
    refine fn_draw (l := 2 + N) F sc__law_bent rfl fun cdv A outer s H E hr => ?_
    have hu64 : (A.deeper (envOfC "_law_bent" (defScope s__law_bent) s.heap.objs.size f cdv)).units + 64 < cLine := hr.units
    refine ⟨_, (pss_cons (ps_if (PW.pt (pw_or (pt_not (pt_val (pe_callB call_isi (by rfl) T.isinstance PyProof.Rows.boot_isinstance (pa_cons (pv 1) (pa_cons (pe_bltn (v := .ty "tuple") (by rfl) T.tuple (by decide +kernel) rfl) pa_nil))))) (pw_or (pt_cmpR (op_eqD hu64) (pv 1) (pe_tup pa_nil) (nomark _)) (pw_or1 (pt_cmpR op_eq (pe_cal C__law_take (hr.mono (by omega)) (by rfl) (pa_cons (pv 0) (pa_cons pe_int pa_nil))) pe_int (nomark _)))))) (pss_one (ps_ret (pe_cal C__law_of (hr.mono (by omega)) (by rfl) (pa_cons (pv 0) (pa_cons (pe_lst (pa_cons pe_int (pa_cons pe_int (pa_cons pe_int (pa_cons pe_int (pa_cons (pe_un un_neg pe_int) (pa_cons pe_bl (pa_cons pe_bl (pa_cons pe_non (pa_cons pe_str (pa_cons (pe_tup pa_nil) (pa_cons (pe_tup (pa_cons pe_int pa_nil)) (pa_cons (pe_tup (pa_cons pe_int (pa_cons pe_int pa_nil))) pa_nil))))))))))))) pa_nil))))) pss_nil)
      (pss_cons (ps_set (i := 2) sc__law_bent.nd rfl (Or.inl rfl) (pe_cal C__law_take (hr.mono (by omega)) (by rfl) (pa_cons (pv 0) (pa_cons pe_int pa_nil))))
      (pss_cons (ps_if (pt_cmpR op_eq (pv 2) pe_int (nomark _)) (pss_one (ps_ret (pe_callTy call_list_of (by rfl) T.list (by decide +kernel) (pa_cons (pv 1) pa_nil)))) pss_nil)
      (pss_cons (ps_set (i := 3) sc__law_bent.nd rfl (Or.inl rfl) (pe_cal C__law_take (hr.mono (by omega)) (by rfl) (pa_cons (pv 0) (pa_cons (pe_callB call_len_seq (by rfl) T.len PySem.boot_len (pa_cons (pv 1) pa_nil)) pa_nil))))
      (pss_cons (ps_if (pt_cmpR op_eq (pv 2) pe_int (nomark _)) (pss_one (ps_ret (pe_op op_catA (pe_slice sl_tupA (pv 1) po_none (po_some (pv 3))) (pe_slice sl_tupA (pv 1) (po_some (pe_op op_add (pv 3) pe_int)) po_none)))) pss_nil)
      (pss_one (ps_ret (pe_ifExp (pt_cmpR op_eq (pv 2) pe_int (nomark _)) (pe_op op_catA (pv 1) (pe_slice sl_tupA (pv 1) (po_some (pv 3)) (po_some (pe_op op_add (pv 3) pe_int)))) (pe_cal C__law_put (hr.mono (by omega)) (by rfl) (pa_cons (pv 1) (pa_cons (pv 3) (pa_cons (pe_cal C__law_bent hr (by rfl) (pa_cons (pv 0) (pa_cons (pe_ix ix_tup (pv 1) (pv 3) (fun _ _ => rfl)) pa_nil))) pa_nil)))))))))))), fun u as hl hp => ?_⟩
    obtain ⟨n, d, e, rfl, fd0⟩ := hp
    cases e
    have shp := fine_shaped fd0 (by omega)
    refine su_x (xr_more (k := (0 + (0 + 1)) + (1 + (0 + (1 + (0 + 4 * N))))) (xr_ifRet (P := fun b => b = false → Ph.isTuple d = true ∧ (subT d).isEmpty = false) (xb_or (P := fun b => b = !Ph.isTuple d) (xb_pure fun x => bm_pure fun O => (bf_not (bf_B (xf_is_tuple xf_var))) O _ (!Ph.isTuple d) rfl) (fun c => xb_or (P := fun b => b = (subT d).isEmpty) (P2 := fun _ => True) (P3 := fun b => b = false → (subT d).isEmpty = false) (xb_pure fun x => bm_pure fun O => (bf_test (xf_op xf_var (xf_tup af_nil) of_eqD)) O _ _ (eq_nil d _ 1 rfl shp (by simpa using c.symm))) (fun c2 => xb_draw fun O => eu_op (R1 := fun d => ∃ i : Int, d = .int i) (eu_imp (eu_call (ea_cons ev_int ea_nil) rfl ⟨6, rfl, by decide, by decide⟩) fun d h => by obtain ⟨x, e, _⟩ := take_int h; exact ⟨x, e⟩) (eu_pure ev_int) fun a b ha hb => by
        obtain ⟨i, rfl⟩ := ha
        subst hb
        exact ⟨.bool (decide (i = 0)), ⟨_, rfl, True.intro⟩, od_eqI⟩) (fun c h => by cases h) (fun b c _ _ => c.symm)) (fun c h => by cases h) (fun b c h z => ⟨by simpa using c.symm, h z⟩)) (fun c => ?a) (fun c => ?b)) (by omega)) rfl
    case a =>
      refine xr_more (k := 0 + 1) (xr_retX (evx_imp (evx_U fun O => eu_call ((af_cons (xf_lst (af_cons xf_int (af_cons xf_int (af_cons xf_int (af_cons xf_int (af_cons xf_neg1 (af_cons xf_bl (af_cons xf_bl (af_cons xf_non (af_cons xf_str (af_cons (xf_tup af_nil) (af_cons (xf_tup (af_cons xf_int af_nil)) (af_cons (xf_tup (af_cons xf_int (af_cons xf_int af_nil))) af_nil))))))))))))) af_nil) O _ [.list atoms] rfl) rfl ⟨atoms, rfl, by decide, by decide⟩) (fun d h => ?_) (Nat.le_refl _))) (by omega)
      obtain ⟨es, e1, h⟩ := h
      cases e1
      exact atoms_fine h (by omega)
    case b =>
      obtain ⟨tp, ne⟩ := c rfl
      cases d with
      | tuple es =>
        obtain ⟨n, rfl, le, fe⟩ := fine_sub fd0
        have ln : 1 ≤ es.length := by
          cases es with
          | nil => cases ne
          | cons x xs => exact Nat.le_add_left 1 _
        refine xr_seq (xn_set (i := 2) (fun O => eu_call (ea_cons ev_int ea_nil) rfl ⟨12, rfl, by decide, by decide⟩) no_m (by decide)) fun M' ds' h => ?_
        obtain ⟨rfl, d, r, rfl⟩ := h
        obtain ⟨way, rfl, _, _⟩ := take_int r
        refine xr_ifRet (P := fun _ => True) (xn_tt (xb_pure fun x => bm_pure fun O => (bf_test (xf_op xf_var xf_int of_eqI)) O _ (decide (way = 0)) rfl)) (fun _ => ?_) (fun _ => ?_)
        · refine xr_more (xr_retX (evx_imp (evx_U fun O => eu_pure ((xf_cb (af_cons xf_var af_nil) hf_lst) O _ (.list es) rfl)) (fun d h => ?_) (Nat.le_refl _))) (Nat.zero_le _)
          subst h
          exact fine_lst (by omega) fun e he => fine_mono (by omega) (by omega) (fe e he)
        · refine xr_seq (xn_set (i := 3) (fun O => eu_call (ea_cons (ev_cb (ea_cons (ev_var (by rfl)) ea_nil) cb_lenT) ea_nil) rfl ⟨(es.length : Nat), rfl, by omega, by omega⟩) no_m (by decide)) fun M' ds' h => ?_
          obtain ⟨rfl, d, r, rfl⟩ := h
          obtain ⟨at_, rfl, a0, a1⟩ := take_int r
          have cl : ∀ lo hi, (cutD es lo hi).length ≤ es.length := fun lo hi => cutD_len
          refine xr_ifRet (P := fun _ => True) (xn_tt (xb_pure fun x => bm_pure fun O => (bf_test (xf_op xf_var xf_int of_eqI)) O _ (decide (way = 1)) rfl)) (fun _ => ?_) (fun _ => ?_)
          · refine xr_more (xr_retX (evx_imp (evx_U fun O => eu_pure ((xf_op (xf_slT xf_var po_no (po_is xf_var)) (xf_slT xf_var (po_is (xf_op xf_var xf_int of_add)) po_no) of_catT) O _ (.tuple (cutD es none (some at_) ++ cutD es (some (at_ + 1)) none)) ?_)) (fun d h => ?_) (Nat.le_refl _))) (Nat.zero_le _)
            · show (if _ then _ else _) = _
              have c1 := cl none (some at_)
              have c2 := cl (some (at_ + 1)) none
              rw [if_pos (by omega)]
            · subst h
              have c1 := cl none (some at_)
              have c2 := cl (some (at_ + 1)) none
              refine fine_tup (by rw [List.length_append]; omega) fun e he => fine_mono (by omega) (by omega) (fe e ?_)
              rcases List.mem_append.mp he with he | he <;> exact cutD_mem he
          · refine xr_retX (evx_U fun O => eu_more (eu_ifE (k := 4 * (n + 1)) (b := decide (way = 2)) ((bf_test (xf_op xf_var xf_int of_eqI)) O _ _ rfl) (fun _ => eu_more (eu_imp (eu_pure ((xf_op xf_var (xf_slT xf_var (po_is xf_var) (po_is (xf_op xf_var xf_int of_add))) of_catT) O _ (.tuple (es ++ cutD es (some at_) (some (at_ + 1)))) ?_)) fun d h => ?_) (Nat.zero_le _)) (fun _ => ?_)) (by omega))
            · show (if _ then _ else _) = _
              have c1 := cl (some at_) (some (at_ + 1))
              rw [if_pos (by omega)]
            · subst h
              have c1 := cl (some at_) (some (at_ + 1))
              refine fine_tup (by rw [List.length_append]; omega) fun e he => fine_mono (by omega) (by omega) (fe e ?_)
              rcases List.mem_append.mp he with he | he
              · exact he
              · exact cutD_mem he
            · obtain ⟨j, rfl⟩ := Int.eq_ofNat_of_zero_le a0
              have hj : j < es.length := by omega
              have ge : es[j]? = some es[j] := List.getElem?_eq_getElem hj
              refine eu_more (k := 4 * (n + 1)) (j := 0 + (0 + (4 * (n + 1) + 0))) (eu_cal (eau_cons (eu_pure (ev_var (by rfl))) (eau_cons (eu_pure (ev_var (by rfl))) (eau_cons (eu_call (ea_cons (ev_op (ev_var (by rfl)) (ev_var (by rfl)) (od_ixT (by exact atI_nat ge))) ea_nil) rfl ⟨n, es[j], rfl, rfl, fe _ (List.getElem_mem hj)⟩) eau_nil))) fun fs h => ?_) (by omega)
              obtain ⟨_, _, rfl, rfl, _, _, rfl, rfl, x, _, rfl, fx, rfl⟩ := h
              exact ⟨rfl, .tuple (putD es (j : Nat) x), fine_put (m := m) (fun e he => fine_mono (Nat.le_succ n) (Nat.le_refl _) (fe e he)) fx le (by omega), put_ok (by omega)⟩
      | _ => cases tp
end
end K13
namespace K13
open PySem PySem.Spec PyProof.Rows L2 Ph
theorem ints_of : ∀ {fs : List PyData}, (∀ x ∈ fs, ∃ i : Int, x = .int i) → ∃ hs : List Int, fs = hs.map PyData.int
  | [], _ => ⟨[], rfl⟩
  | x :: xs, h => by
    obtain ⟨i, rfl⟩ := h x List.mem_cons_self
    obtain ⟨hs, rfl⟩ := ints_of fun y hy => h y (List.mem_cons_of_mem _ hy)
    exact ⟨i :: hs, rfl⟩
theorem int_mem {hs : List Int} {i : Int} : PyData.int i ∈ hs.map PyData.int ↔ i ∈ hs := by
  constructor
  · intro h
    obtain ⟨j, hj, e⟩ := List.mem_map.mp h
    cases e; exact hj
  · exact fun h => List.mem_map.mpr ⟨i, h, rfl⟩
/-- what a drawn row, line, book is -/
def RowP (F : Nat) (hs : List Int) (l : Int) (r : PyData) : Prop := ∃ (f o : Int) (a b : List Int), r = .tuple [.int f, .int o, hT a, hT b] ∧ rowOk F hs l r = true ∧ a.length = hs.length ∧ b.length = hs.length ∧ fine 2 10 r
def LineP (F : Nat) (hs : List Int) (w : Nat) (l : PyData) : Prop := ∃ rs, l = .tuple rs ∧ rs.length = w ∧ ∀ (i : Nat) (r : PyData), rs[i]? = some r → RowP F hs (i : Nat) r
def FlagP (F : Nat) (hs : List Int) (w : Nat) (t : PyData) : Prop := ∃ ls, t = .tuple ls ∧ ls.length = hs.length ∧ ∀ l ∈ ls, LineP F hs w l
structure BookP (as : List PyData) (hs : List Int) (b : PyData) (ts : List PyData) (w : Nat) : Prop where
  a1 : 1 ≤ as.length
  a3 : as.length ≤ 3
  h1 : 1 ≤ hs.length
  h6 : hs.length ≤ 6
  w1 : 2 ≤ w
  w3 : w ≤ 3
  tl : ts.length = as.length
  tf : ∀ t ∈ ts, FlagP as.length hs w t
  ok : bookOk (bk as hs b (.tuple ts)) = true
  fi : fine 6 10 (bk as hs b (.tuple ts))
theorem line_fine {F w : Nat} {hs : List Int} {l : PyData} (hw : w ≤ 3) (h : LineP F hs w l) : fine 3 10 l := by
  obtain ⟨rs, rfl, e, z⟩ := h
  refine fine_tup (by omega) fun r hr => ?_
  obtain ⟨i, hi⟩ := List.getElem?_of_mem hr
  obtain ⟨f, o, a, b, rfl, _, _, _, fr⟩ := z i r hi
  exact fr
theorem flag_fine {F w : Nat} {hs : List Int} {t : PyData} (hw : w ≤ 3) (h6 : hs.length ≤ 6) (h : FlagP F hs w t) : fine 4 10 t := by
  obtain ⟨ls, rfl, e, z⟩ := h
  exact fine_tup (by omega) fun l hl => line_fine hw (z l hl)
theorem nums_fine {ms : List Int} (hl : ms.length ≤ 10) (h : ∀ m ∈ ms, m < 99) : fine 1 10 (hT ms) := fine_tup (by rw [List.length_map]; exact hl) fun e he => by
  obtain ⟨m, hm, rfl⟩ := List.mem_map.mp he
  exact fine_atm (n := 0) (h m hm)
theorem book_is {as : List PyData} {hs : List Int} {b : PyData} {ts : List PyData} {w : Nat} (a1 : 1 ≤ as.length) (a3 : as.length ≤ 3) (h1 : 1 ≤ hs.length) (h6 : hs.length ≤ 6) (w1 : 2 ≤ w) (w3 : w ≤ 3) (tl : ts.length = as.length) (tf : ∀ t ∈ ts, FlagP as.length hs w t)
    (ab : ∀ a ∈ as, ∃ v, a = .bool v) (hr : ∀ h ∈ hs, 0 ≤ h ∧ h < w) (bg : ∃ f o : Int, b = .tuple [.int f, .int o] ∧ 0 ≤ f ∧ f < as.length ∧ 0 ≤ o ∧ o < hs.length ∧ hs.getD o.toNat 0 = 0) : BookP as hs b ts w := by
  obtain ⟨f, o, rfl, f0, f1, o0, o1, og⟩ := bg
  refine ⟨a1, a3, h1, h6, w1, w3, tl, tf, ?_, ?_⟩
  · have e1 : bookOk (bk as hs (.tuple [.int f, .int o]) (.tuple ts)) = (ansOk (.tuple as) && (huesOk hs && (begOk as.length hs (.tuple [.int f, .int o]) && rowsOk as.length hs (maxI hs + 1) (.tuple ts)))) := by
      show (ansOk (.tuple as) && (match nums? (hT hs) with | some hs => huesOk hs && (begOk as.length hs (.tuple [.int f, .int o]) && rowsOk as.length hs (maxI hs + 1) (.tuple ts)) | none => false)) = _
      rw [nums_tup]
    have e2 : ansOk (.tuple as) = true := by
      show (decide (0 < as.length) && as.all Ph.isBool) = true
      rw [Bool.and_eq_true]
      exact ⟨decide_eq_true (by omega), List.all_eq_true.mpr fun a ha => by obtain ⟨v, rfl⟩ := ab a ha; rfl⟩
    have e3 : begOk as.length hs (.tuple [.int f, .int o]) = true := by
      show ((decide (0 ≤ f) && decide (f < (as.length : Int))) && (decide (0 ≤ o) && decide (o < (hs.length : Int)) && decide (hs.getD o.toNat 0 = 0))) = true
      rw [decide_eq_true f0, decide_eq_true f1, decide_eq_true o0, decide_eq_true o1, decide_eq_true og]; rfl
    have e4 := rows_same as.length hs (.tuple ts) (by omega) (List.ne_nil_of_length_pos (by omega)) fun x m => (hr x m).1
    have lp : ∀ l ∈ ts.flatMap subT, LineP as.length hs w l := fun l hl => by
      obtain ⟨t, ht, hl⟩ := List.mem_flatMap.mp hl
      obtain ⟨ls, rfl, _, z⟩ := tf t ht
      exact z l hl
    have wd : wideOf (ts.flatMap subT) = w := by
      cases ts with
      | nil => rw [List.length_nil] at tl; omega
      | cons t ts =>
        obtain ⟨ls, rfl, ll, z⟩ := tf t List.mem_cons_self
        cases ls with
        | nil => rw [List.length_nil] at ll; omega
        | cons l ls =>
          obtain ⟨rs, rfl, e, _⟩ := z l List.mem_cons_self
          exact e
    have e5 : lrowsOk as.length hs (.tuple ts) = true := by
      show (decide (ts.length = as.length) && (ts.all fun t => tupOf t hs.length) && (decide (2 ≤ wideOf (ts.flatMap subT)) && ((ts.flatMap subT).all fun l => tupOf l (wideOf (ts.flatMap subT))) && (hs.all fun h => decide (h < (wideOf (ts.flatMap subT) : Int))) && ((ts.flatMap subT).all fun l => (enumD (subT l)).all (pRow as.length hs)))) = true
      rw [wd]
      have q1 : (ts.all fun t => tupOf t hs.length) = true := List.all_eq_true.mpr fun t ht => by
        obtain ⟨ls, rfl, ll, _⟩ := tf t ht
        exact decide_eq_true (by omega)
      have q2 : ((ts.flatMap subT).all fun l => tupOf l w) = true := List.all_eq_true.mpr fun l hl => by
        obtain ⟨rs, rfl, e, _⟩ := lp l hl
        exact decide_eq_true (by omega)
      have q3 : (hs.all fun h => decide (h < (w : Int))) = true := List.all_eq_true.mpr fun h hh => decide_eq_true (hr h hh).2
      have q4 : ((ts.flatMap subT).all fun l => (enumD (subT l)).all (pRow as.length hs)) = true := List.all_eq_true.mpr fun l hl => by
        obtain ⟨rs, rfl, e, z⟩ := lp l hl
        refine List.all_eq_true.mpr fun p hp => ?_
        obtain ⟨k, r, hk, rfl⟩ := enum_mem hp
        obtain ⟨f, o, a, b, rfl, ok, _⟩ := z k r hk
        exact ok
      rw [q1, q2, q3, q4, decide_eq_true tl, decide_eq_true w1]; rfl
    rw [e5] at e4
    rw [e1, e2, e3]
    exact e4
  · refine fine_tup (by show 4 ≤ 10; decide) fun e he => ?_
    simp only [List.mem_cons, List.not_mem_nil, or_false] at he
    rcases he with rfl | rfl | rfl | rfl
    · exact fine_tup (by omega) fun a ha => by obtain ⟨v, rfl⟩ := ab a ha; exact fine_atm True.intro
    · exact fine_mono (by decide) (Nat.le_refl _) (nums_fine (by omega) fun m hm => by have := (hr m hm).2; omega)
    · refine fine_tup (by show 2 ≤ 10; decide) fun e he => ?_
      simp only [List.mem_cons, List.not_mem_nil, or_false] at he
      rcases he with rfl | rfl
      · exact fine_atm (by show f < 99; omega)
      · exact fine_atm (by show o < 99; omega)
    · exact fine_tup (by omega) fun t ht => flag_fine w3 h6 (tf t ht)
end K13
namespace K13
open PySem PySem.Spec PyProof.Rows L2 Ph
section
variable {P : Program} {w : World} {K : PySem.W.Frag} {mg : Str → Option Value} {base : Heap}
abbrev s__law_book : Stmt := top 27
abbrev N__law_book : List Str := ["urn", "letters", "flags", "hues", "letter", "rows", "flag", "lines", "hue", "line", "new", "k", "own", "begin"]
theorem sc__law_book : FnScope N__law_book ["urn"] (defScope s__law_book) := ⟨rfl, rfl, rfl, by decide +kernel, rfl, by decide +kernel, by decide +kernel⟩
/-- the slots of the def, lists aside -/
abbrev dsB (L F : Int) (hs : List Int) (x4 x6 x8 x10 x13 : Option PyData) : List (Option PyData) := [none, some (.int L), some (.int F), some (iL hs), x4, none, x6, none, x8, none, x10, none, none, x13]
theorem take1 {low : Int} {d : PyData} (r : R_take [.int low] d) : ∃ N : Nat, d = .int (N : Nat) ∧ (N : Int) < low := by
  obtain ⟨x, rfl, h0, h1⟩ := take_int r
  obtain ⟨n, rfl⟩ := Int.eq_ofNat_of_zero_le h0
  exact ⟨n, rfl, h1⟩
theorem eu_take {o : List Addr} {u : Addr} {iu : Nat} {te : TE} {ds : List (Option PyData)} {n : Nat} {E : XK} (h : EvD K o te ds (.int (n : Nat))) (h1 : 1 ≤ n) (h2 : n ≤ 1000) : EvU K o u iu (tCall (spHide (spU K 1 1 pre_take R_take)) [] E (tCons (tVar iu) (tCons te tNil))) ds 1 (fun d => ∃ N : Nat, d = .int (N : Nat) ∧ N < n) :=
  eu_imp (eu_call (ea_cons h ea_nil) rfl ⟨(n : Nat), rfl, by omega, by omega⟩) fun d h => by
    obtain ⟨N, e, l⟩ := take1 h
    exact ⟨N, e, by omega⟩
theorem eu_one {o : List Addr} {u : Addr} {iu : Nat} {ds : List (Option PyData)} {E : XK} (n : Nat) (n1 : 1 ≤ n) (n3 : n ≤ 1000) : EvU K o u iu (tOp (rI0 fun i j => .int (i + j)) (tC (.int 1)) (tCall (spHide (spU K 1 1 pre_take R_take)) [] E (tCons (tVar iu) (tCons (tC (.int (n : Nat))) tNil)))) ds (0 + 1) (fun d => ∃ L : Nat, d = .int (L : Nat) ∧ 1 ≤ L ∧ L ≤ n) := eu_op (k := 0) (eu_pure ev_int) (eu_take (n := n) ev_int n1 n3) fun a b ha hb => by
  subst ha
  obtain ⟨N, rfl, l⟩ := hb
  exact ⟨.int ((1 + N : Nat)), ⟨1 + N, rfl, by omega, by omega⟩, of_add o _ _ _ (by show some (PyData.int (1 + (N : Int))) = _; rw [Int.natCast_add]; rfl)⟩
theorem row_fz {F : Nat} {hs : List Int} {l : Int} {r : PyData} (h : RowP F hs l r) : fz 2 r := by
  obtain ⟨f, o, a, b, rfl, _⟩ := h
  have z : ∀ ns : List Int, fz 1 (hT ns) := fun ns e he => by
    obtain ⟨i, _, rfl⟩ := List.mem_map.mp he
    rfl
  show ∀ e ∈ _, fz 1 e
  intro e he
  simp only [List.mem_cons, List.not_mem_nil, or_false] at he
  rcases he with rfl | rfl | rfl | rfl
  · rfl
  · rfl
  · exact z a
  · exact z b
theorem rows_fz {F : Nat} {hs : List Int} {rs : List PyData} (h : ∀ (i : Nat) (r : PyData), rs[i]? = some r → RowP F hs (i : Nat) r) : fz 3 (.tuple rs) := fun r hr => by
  obtain ⟨i, hi⟩ := List.getElem?_of_mem hr
  exact row_fz (h i r hi)
theorem lines_fz {F w : Nat} {hs : List Int} {ls : List PyData} (h : ∀ l ∈ ls, LineP F hs w l) : fz 4 (.tuple ls) := fun l hl => by
  obtain ⟨rs, rfl, _, z⟩ := h l hl
  exact rows_fz z
theorem flags_fz {F w : Nat} {hs : List Int} {ts : List PyData} (h : ∀ t ∈ ts, FlagP F hs w t) : fz 5 (.tuple ts) := fun t ht => by
  obtain ⟨ls, rfl, _, z⟩ := h t ht
  exact lines_fz z
abbrev R_book : List PyData → PyData → Prop := fun _ d => ∃ as hs b ts w, d = bk as hs b (.tuple ts) ∧ BookP as hs b ts w
theorem ok__law_book {f : Addr} {fd : FuncData} (F : Fun K "_law_book" "_law_book" s__law_book f fd) (T : Blt mg) (Z : Blt2 mg) (C__law_take : Cal P w K mg base "_law_take" 1 ["urn", "low_so"] (spU K 1 1 pre_take R_take)) (C__law_pick : Cal P w K mg base "_law_pick" 2 ["urn", "goods", "count"] (spU K 2 20 pre_pick R_pick)) (C__law_of : Cal P w K mg base "_law_of" 2 ["urn", "goods"] (spU K 1 1 pre_of R_of)) (C__law_own_map : Cal P w K mg base "_law_own_map" 3 ["urn", "hues"] (spU K 1 10 pre_map R_map)) : FnOk P w K mg base CX0 4 f fd ["urn"] (spU K 0 1400 (fun as => as = []) R_book) := by
  refine fn_draw F sc__law_book rfl fun cdv A outer s H E hr => ?_
  have hu64 : (A.deeper (envOfC "_law_book" (defScope s__law_book) s.heap.objs.size f cdv)).units + 64 < cLine := hr.units
  refine ⟨_, (pss_cons (ps_par (i := 1) (j := 2) (by rfl) sc__law_book.nd rfl rfl (by decide) rfl rfl (pa_cons (pe_op op_add pe_int (pe_cal C__law_take (hr.mono (by decide)) (by rfl) (pa_cons (pv 0) (pa_cons pe_int pa_nil)))) (pa_cons (pe_op op_add pe_int (pe_cal C__law_take (hr.mono (by decide)) (by rfl) (pa_cons (pv 0) (pa_cons pe_int pa_nil)))) pa_nil)) (by rfl))
      (pss_cons (ps_set (i := 3) sc__law_book.nd rfl (Or.inl rfl) (pe_lst pa_nil))
      (pss_cons (ps_for PassesOwn.never rfl (pi_range1 rfl T.range (pa_cons (pe_op op_add (pv 1) pe_int) pa_nil)) (pg_name (i := 4) sc__law_book.nd rfl (Or.inr rfl)) (pss_one (ps_set (i := 3) sc__law_book.nd rfl (Or.inl rfl) (pe_op op_cat (pv 3) (pe_op op_rep (pe_lst (pa_cons (pv 4) pa_nil)) (pe_op op_add pe_int (pe_cal C__law_take (hr.mono (by decide)) (by rfl) (pa_cons (pv 0) (pa_cons pe_int pa_nil)))))))))
      (pss_cons (ps_set (i := 3) sc__law_book.nd rfl (Or.inl rfl) (pe_cal C__law_pick (hr.mono (by decide)) (by rfl) (pa_cons (pv 0) (pa_cons (pv 3) (pa_cons (pe_callB call_len_seq (by rfl) T.len PySem.boot_len (pa_cons (pv 3) pa_nil)) pa_nil)))))
      (pss_cons (ps_set (i := 5) sc__law_book.nd rfl (Or.inl rfl) (pe_lst pa_nil))
      (pss_cons (ps_for PassesOwn.never rfl (pi_range1 rfl T.range (pa_cons (pv 2) pa_nil)) (pg_name (i := 6) sc__law_book.nd rfl (Or.inl rfl)) (pss_cons (ps_set (i := 7) sc__law_book.nd rfl (Or.inl rfl) (pe_lst pa_nil))
      (pss_cons (ps_for PassesOwn.never rfl (pi_list (pv 3)) (pg_name (i := 8) sc__law_book.nd rfl (Or.inl rfl)) (pss_cons (ps_set (i := 9) sc__law_book.nd rfl (Or.inl rfl) (pe_lst pa_nil))
      (pss_cons (ps_for PassesOwn.never rfl (pi_range1 rfl T.range (pa_cons (pe_op op_add (pv 1) pe_int) pa_nil)) (pg_name (i := 4) sc__law_book.nd rfl (Or.inr rfl)) (pss_cons (ps_set (i := 10) sc__law_book.nd rfl (Or.inl rfl) (pe_cal C__law_of (hr.mono (by decide)) (by rfl) (pa_cons (pv 0) (pa_cons (pe_lc (own := [("k", 11), ("own", 12)]) (g := (gTup K 2 (gCons (gName 11) (gCons (gName 12) gNil)))) (tt := (tTest (tOp _ (tVar 12) (tVar 4)))) (te := (tVar 11)) rfl sc__law_book.nd (pi_enum (by rfl) T.enumerate (pa_cons (pv 3) pa_nil)) (blkOk_by (N := N__law_book) (sc := defScope s__law_book) (by decide +kernel)) (fun _ _ _ _ _ => by exact (pg_tup rfl (pgs_cons (pg_name (i := 11) sc__law_book.nd rfl (Or.inl rfl)) (pgs_cons (pg_name (i := 12) sc__law_book.nd rfl (Or.inl rfl)) pgs_nil)))) (fun _ _ _ _ _ => by exact (pts_one (pt_cmpR op_eq (pv 12) (pv 4) (nomark _)))) (fun _ _ _ _ _ => by exact (pv 11))) pa_nil))))
      (pss_one (ps_expr (pe_bm PySem.F.plainAttrs_list PySem.F.slot_list_append PySem.F.type_list_append mt_append (pv 9) (pa_cons (pe_tup (pa_cons (pe_cal C__law_take (hr.mono (by decide)) (by rfl) (pa_cons (pv 0) (pa_cons (pv 2) pa_nil))) (pa_cons (pv 10) (pa_cons (pe_cal C__law_own_map (hr.mono (by decide)) (by rfl) (pa_cons (pv 0) (pa_cons (pv 3) pa_nil))) (pa_cons (pe_cal C__law_own_map (hr.mono (by decide)) (by rfl) (pa_cons (pv 0) (pa_cons (pv 3) pa_nil))) pa_nil))))) pa_nil))))))
      (pss_one (ps_expr (pe_bm PySem.F.plainAttrs_list PySem.F.slot_list_append PySem.F.type_list_append mt_append (pv 7) (pa_cons (pe_callTy call_tuple_of (by rfl) T.tuple (by decide +kernel) (pa_cons (pv 9) pa_nil)) pa_nil)))))))
      (pss_one (ps_expr (pe_bm PySem.F.plainAttrs_list PySem.F.slot_list_append PySem.F.type_list_append mt_append (pv 5) (pa_cons (pe_callTy call_tuple_of (by rfl) T.tuple (by decide +kernel) (pa_cons (pv 7) pa_nil)) pa_nil)))))))
      (pss_cons (ps_set (i := 13) sc__law_book.nd rfl (Or.inl rfl) (pe_tup (pa_cons (pe_cal C__law_take (hr.mono (by decide)) (by rfl) (pa_cons (pv 0) (pa_cons (pv 2) pa_nil))) (pa_cons (pe_cal C__law_of (hr.mono (by decide)) (by rfl) (pa_cons (pv 0) (pa_cons (pe_lc (own := [("k", 11), ("own", 12)]) (g := (gTup K 2 (gCons (gName 11) (gCons (gName 12) gNil)))) (tt := (tTest (tOp _ (tVar 12) (tC (.int 0))))) (te := (tVar 11)) rfl sc__law_book.nd (pi_enum (by rfl) T.enumerate (pa_cons (pv 3) pa_nil)) (blkOk_by (N := N__law_book) (sc := defScope s__law_book) (by decide +kernel)) (fun _ _ _ _ _ => by exact (pg_tup rfl (pgs_cons (pg_name (i := 11) sc__law_book.nd rfl (Or.inl rfl)) (pgs_cons (pg_name (i := 12) sc__law_book.nd rfl (Or.inl rfl)) pgs_nil)))) (fun _ _ _ _ _ => by exact (pts_one (pt_cmpR op_eq (pv 12) pe_int (nomark _)))) (fun _ _ _ _ _ => by exact (pv 11))) pa_nil))) pa_nil))))
      (pss_one (ps_ret (pe_tup (pa_cons (pe_callTy call_tuple_of (by rfl) T.tuple (by decide +kernel) (pa_cons (pe_lc (own := [("flag", 6)]) (g := (gName 6)) (tt := tYes) (te := (tOp _ (tCall (spHide _) [] E0 (tCons (tVar 0) (tCons (tC (.int 2)) tNil))) (tC (.int 0)))) rfl sc__law_book.nd (pi_range1 rfl T.range (pa_cons (pv 2) pa_nil)) (blkOk_by (N := N__law_book) (sc := defScope s__law_book) (by decide +kernel)) (fun _ _ _ _ _ => by exact (pg_name (i := 6) sc__law_book.nd rfl (Or.inl rfl))) (fun _ _ _ _ _ => by exact pts_nil) (fun _ _ _ _ _ => by exact (pe_cmpR op_eq (pe_cal C__law_take (hr.mono (by decide)) (by rfl) (pa_cons (pv 0) (pa_cons pe_int pa_nil))) pe_int (nomark _)))) pa_nil)) (pa_cons (pe_callTy call_tuple_of (by rfl) T.tuple (by decide +kernel) (pa_cons (pv 3) pa_nil)) (pa_cons (pv 13) (pa_cons (pe_callTy call_tuple_of (by rfl) T.tuple (by decide +kernel) (pa_cons (pv 5) pa_nil)) pa_nil)))))))))))))), fun u as hl hp => ?_⟩
  subst hp
  refine su_x (xr_more (k := 2 + (0 + (3 + (20 + (0 + (1188 + (2 + 3))))))) (xr_seq (xn_par (S := fun a b => ∃ L F : Nat, a = .int (L : Nat) ∧ b = .int (F : Nat) ∧ 1 ≤ L ∧ L ≤ 2 ∧ 1 ≤ F ∧ F ≤ 3) (fun O => ?p1) no_m no_m (by decide) (by decide)) fun M' ds' h => ?_) (by decide)) rfl
  case p1 =>
    refine fun σ H n E W A hn Q q => (eau_cons (eu_one 2 (by decide) (by decide)) (eau_cons (eu_one 3 (by decide) (by decide)) eau_nil)) σ H n E W A hn Q fun vs es H2 r D x => q vs es H2 ?_ D x
    obtain ⟨a, _, rfl, ⟨L, rfl, l1, l2⟩, b, _, rfl, ⟨F, rfl, f1, f2⟩, rfl⟩ := r
    exact ⟨_, _, rfl, L, F, rfl, rfl, l1, l2, f1, f2⟩
  obtain ⟨rfl, a, b, ⟨L, F, rfl, rfl, l1, l2, f1, f2⟩, rfl⟩ := h
  refine xr_seq (k := 0) (xn_set (i := 3) (R := fun d => d = iL []) (fun O => eu_pure (ev_lst ea_nil (by decide))) no_m (by decide)) fun M' ds' h => ?_
  obtain ⟨rfl, d, rfl, rfl⟩ := h
  refine xr_seq (k := 3) (xn_imp (xn_forX (i := 4) (l := 1) (xs := rngD (L + 1)) (fun j M ds => ∃ (hs : List Int) (x : Option PyData), M = [] ∧ ds = dsB L F hs x none none none none ∧ (∀ h ∈ hs, 0 ≤ h ∧ h < (j : Nat)) ∧ (∀ l : Nat, l < j → (l : Int) ∈ hs) ∧ hs.length ≤ 2 * j) (eix_rng (n0 := L + 1) (fun x => em_pure fun O => (xf_op xf_var xf_int of_add) O _ _ rfl) (by omega)) ⟨[], none, rfl, rfl, fun h m => (by cases m), fun l z => (by omega), by decide⟩ (by decide) ?sl1 ?ht1) (fun M' ds' h => h) (by rw [rngD_len]; omega)) fun M' ds' h => ?_
  case sl1 =>
    rintro j M ds ⟨hs, x, rfl, _⟩ m hm
    cases hm
  case ht1 =>
    rintro j e M ds he ⟨hs, x, rfl, rfl, h1, h2, h3⟩
    have hj := (List.getElem?_eq_some_iff.mp he).1
    rw [rngD_len] at hj
    have ee : e = .int ((0 : Int) + (j : Nat)) := by
      unfold rngD at he
      rw [List.getElem?_map, List.getElem?_range (by omega)] at he
      cases he; rfl
    rw [Int.zero_add] at ee
    subst ee
    refine xn_imp (xn_set (i := 3) (R := fun d => ∃ N : Nat, N < 2 ∧ d = iL (hs ++ List.replicate (1 + N) (j : Int))) (fun O => eu_op (k := 0) (j := 1) (R2' := fun d => ∃ N : Nat, N < 2 ∧ d = iL (List.replicate (1 + N) (j : Int))) (eu_pure (ev_var (d := iL hs) (by rfl))) (eu_op (k := 0) (j := 1) (R2' := fun d => ∃ N : Nat, N < 2 ∧ d = .int ((1 + N : Nat))) (eu_pure (ev_lst (es := [.int (j : Nat)]) (ea_cons (ev_var (by rfl)) ea_nil) (by show 1 ≤ sizeLine; decide))) (eu_op (k := 0) (eu_pure ev_int) (eu_take (n := 2) ev_int (by decide) (by decide)) fun a b ha hb => ?o1) fun a b ha hb => ?o2) fun a b ha hb => ?o3) no_m (by decide)) (fun M2 d2 h => ?_) (by decide)
    case o1 =>
      subst ha
      obtain ⟨N, rfl, l⟩ := hb
      exact ⟨.int ((1 + N : Nat)), ⟨N, l, rfl⟩, of_add O _ _ _ (by show some (PyData.int (1 + (N : Int))) = _; rw [Int.natCast_add]; rfl)⟩
    case o2 =>
      subst ha
      obtain ⟨N, l, rfl⟩ := hb
      refine ⟨_, ⟨N, l, rfl⟩, of_repL O _ _ _ ?_⟩
      show (if _ then _ else _) = _
      rw [if_pos ⟨by omega, by omega, by show 1 * (((1 + N : Nat) : Int).toNat) ≤ _; rw [Int.toNat_natCast]; omega⟩, Int.toNat_natCast]
      have : (List.replicate (1 + N) [PyData.int (j : Nat)]).flatten = (List.replicate (1 + N) (j : Int)).map PyData.int := by
        rw [List.map_replicate]
        generalize 1 + N = n
        induction n with
        | zero => rfl
        | succ n ih => rw [List.replicate_succ, List.flatten_cons, ih, List.replicate_succ]; rfl
      rw [this]
    case o3 =>
      subst ha
      obtain ⟨N, l, rfl⟩ := hb
      refine ⟨_, ⟨N, l, rfl⟩, of_catL O _ _ _ ?_⟩
      show (if _ then _ else _) = _
      rw [if_pos (by rw [List.length_map, List.length_map, List.length_replicate]; omega)]
      show _ = some (PyData.list ((hs ++ List.replicate (1 + N) (j : Int)).map PyData.int))
      rw [List.map_append]
    obtain ⟨rfl, d, ⟨N, l, rfl⟩, rfl⟩ := h
    refine ⟨hs ++ List.replicate (1 + N) (j : Int), _, rfl, rfl, fun h m => ?_, fun i z => ?_, by rw [List.length_append, List.length_replicate]; omega⟩
    · rcases List.mem_append.mp m with m | m
      · have := h1 h m
        omega
      · have := List.eq_of_mem_replicate m
        omega
    · by_cases c : i < j
      · exact List.mem_append_left _ (h2 i c)
      · have : i = j := by omega
        subst this
        exact List.mem_append_right _ (List.mem_replicate.mpr ⟨by omega, rfl⟩)
  obtain ⟨hs0, x4, rfl, rfl, hr0, hc0, hl0⟩ := h
  rw [rngD_len] at hr0 hc0 hl0
  have hp0 : 1 ≤ hs0.length := List.length_pos_of_mem (hc0 0 (by omega))
  refine xr_seq (k := 20) (xn_set (i := 3) (R := fun d => ∃ hs : List Int, d = iL hs ∧ hs.length = hs0.length ∧ ∀ h, h ∈ hs ↔ h ∈ hs0) (fun O => eu_imp (eu_call (ea_cons (ev_var (d := iL hs0) (by rfl)) (ea_cons (ev_cb (ea_cons (ev_var (d := iL hs0) (by rfl)) ea_nil) cb_lenL) ea_nil)) rfl ⟨hs0.map PyData.int, rfl, by rw [List.length_map]; exact hp0, by rw [List.length_map]; omega⟩) fun d h => ?_) no_m (by decide)) fun M' ds' h => ?_
  · obtain ⟨es, fs, e1, rfl, pm⟩ := h
    cases e1
    obtain ⟨hs, rfl⟩ := ints_of (fs := fs) fun x hx => by
      obtain ⟨i, _, rfl⟩ := List.mem_map.mp (pm.mem_iff.mp hx)
      exact ⟨i, rfl⟩
    refine ⟨hs, rfl, by have := pm.length_eq; rwa [List.length_map, List.length_map] at this, fun h => ?_⟩
    rw [← int_mem (hs := hs), ← int_mem (hs := hs0)]
    exact pm.mem_iff
  obtain ⟨rfl, d, ⟨hs, rfl, hle, hme⟩, rfl⟩ := h
  have hr : ∀ h ∈ hs, 0 ≤ h ∧ h < (L + 1 : Nat) := fun h m => hr0 h ((hme h).mp m)
  have hc : ∀ l : Nat, l < L + 1 → (l : Int) ∈ hs := fun l z => (hme _).mpr (hc0 l z)
  have h1 : 1 ≤ hs.length := by omega
  have h6 : hs.length ≤ 6 := by omega
  clear hr0 hc0 hme hle hl0 hp0
  -- the rows
  refine xr_seq (k := 0) (xn_pure (M' := [(5, .l [])]) (ds' := dsB L F hs x4 none none none none) fun x => mn_new (i := 5) (fun O => ef_lst ea_nil (by decide)) (fun m hm => by cases List.mem_singleton.mp hm; exact ne_ rfl) (by show 5 < 14; decide)) fun M' ds' h => ?_
  obtain ⟨rfl, rfl⟩ := h
  have bl : (L + 1) * 22 ≤ 66 := by omega
  have bh : hs.length * ((L + 1) * 22) ≤ 396 := Nat.le_trans (Nat.mul_le_mul h6 bl) (by decide)
  have bf : F * (hs.length * ((L + 1) * 22)) ≤ 1188 := Nat.le_trans (Nat.mul_le_mul f2 bh) (by decide)
  refine xr_seq (k := 1188) (xn_imp (xn_forX (i := 6) (l := hs.length * ((L + 1) * 22)) (xs := rngD F) (fun j M ds => ∃ (ts : List PyData) (y4 y6 y8 y10 : Option PyData), M = [(5, .l ts)] ∧ ds = dsB L F hs y4 y6 y8 y10 none ∧ ts.length = j ∧ ∀ t ∈ ts, FlagP F hs (L + 1) t) (eix_rng (n0 := F) (fun x => em_pure fun O => ev_var (by rfl)) (by omega)) ⟨[], x4, none, none, none, rfl, rfl, rfl, fun t z => (by cases z)⟩ (by decide) ?sl2 ?ht2) (fun M' ds' h => h) (by rw [rngD_len]; omega)) fun M' ds' h => ?_
  case sl2 =>
    rintro j M ds ⟨ts, y4, y6, y8, y10, rfl, _⟩ m hm
    cases List.mem_singleton.mp hm
    exact ne_ rfl
  case ht2 =>
    rintro j e M ds he ⟨ts, y4, y6, y8, y10, rfl, rfl, tl, tf⟩
    have hj := (List.getElem?_eq_some_iff.mp he).1
    rw [rngD_len] at hj
    refine xn_imp (k := 0 + (hs.length * ((L + 1) * 22) + 0)) (xn_seq (k := 0) (xn_pure (M' := [(7, .l []), (5, .l ts)]) (ds' := dsB L F hs y4 (some e) y8 y10 none) fun x => mn_new (i := 7) (fun O => ef_lst ea_nil (by decide)) (fun m hm => by simp only [List.cons_append, List.nil_append, List.mem_cons, List.not_mem_nil, or_false] at hm; rcases hm with rfl | rfl <;> exact ne_ rfl) (by show 7 < 14; decide)) fun M2 d2 h => ?_) (fun M2 d2 h => h) (by omega)
    obtain ⟨rfl, rfl⟩ := h
    refine xn_seq (k := hs.length * ((L + 1) * 22)) (xn_imp (xn_forX (i := 8) (l := (L + 1) * 22) (xs := hs.map PyData.int) (fun j M ds => ∃ (ls : List PyData) (y4 y8 y10 : Option PyData), M = [(7, .l ls), (5, .l ts)] ∧ ds = dsB L F hs y4 (some e) y8 y10 none ∧ ls.length = j ∧ ∀ l ∈ ls, LineP F hs (L + 1) l) (eix_U fun O => eiu_pure (ei_lst (ev_var (by rfl)))) ⟨[], y4, y8, y10, rfl, rfl, rfl, fun t z => (by cases z)⟩ (by decide) ?sl3 ?ht3) (fun M' ds' h => h) (by rw [List.length_map]; omega)) fun M' ds' h => ?_
    case sl3 =>
      rintro j M ds ⟨ls, y4, y8, y10, rfl, _⟩ m hm
      simp only [List.mem_cons, List.not_mem_nil, or_false] at hm
      rcases hm with rfl | rfl <;> exact ne_ rfl
    case ht3 =>
      rintro j2 e2 M ds he2 ⟨ls, y4, y8, y10, rfl, rfl, ll, lf⟩
      have hj2 := (List.getElem?_eq_some_iff.mp he2).1
      rw [List.length_map] at hj2
      refine xn_imp (k := 0 + ((L + 1) * 22 + 0)) (xn_seq (k := 0) (xn_pure (M' := [(9, .l []), (7, .l ls), (5, .l ts)]) (ds' := dsB L F hs y4 (some e) (some e2) y10 none) fun x => mn_new (i := 9) (fun O => ef_lst ea_nil (by decide)) (fun m hm => by simp only [List.cons_append, List.nil_append, List.mem_cons, List.not_mem_nil, or_false] at hm; rcases hm with rfl | rfl | rfl <;> exact ne_ rfl) (by show 9 < 14; decide)) fun M2 d2 h => ?_) (fun M2 d2 h => h) (by omega)
      obtain ⟨rfl, rfl⟩ := h
      refine xn_seq (k := (L + 1) * 22) (xn_imp (xn_forX (i := 4) (l := 22) (xs := rngD (L + 1)) (fun j M ds => ∃ (rs : List PyData) (y4 y10 : Option PyData), M = [(9, .l rs), (7, .l ls), (5, .l ts)] ∧ ds = dsB L F hs y4 (some e) (some e2) y10 none ∧ rs.length = j ∧ ∀ (i : Nat) (r : PyData), rs[i]? = some r → RowP F hs (i : Nat) r) (eix_rng (n0 := L + 1) (fun x => em_pure fun O => (xf_op xf_var xf_int of_add) O _ _ rfl) (by omega)) ⟨[], y4, y10, rfl, rfl, rfl, fun i r z => (by cases z)⟩ (by decide) ?sl4 ?ht4) (fun M' ds' h => h) (by rw [rngD_len]; omega)) fun M' ds' h => ?_
      case sl4 =>
        rintro j M ds ⟨rs, y4, y10, rfl, _⟩ m hm
        simp only [List.mem_cons, List.not_mem_nil, or_false] at hm
        rcases hm with rfl | rfl | rfl <;> exact ne_ rfl
      case ht4 =>
        rintro j3 e3 M ds he3 ⟨rs, y4, y10, rfl, rfl, rl, rf⟩
        have hj3 := (List.getElem?_eq_some_iff.mp he3).1
        rw [rngD_len] at hj3
        have ee : e3 = .int ((0 : Int) + (j3 : Nat)) := by
          unfold rngD at he3
          rw [List.getElem?_map, List.getElem?_range (by omega)] at he3
          cases he3; rfl
        rw [Int.zero_add] at ee
        subst ee
        have gp := goods_pos (hc j3 (by omega))
        have gl := goods_len (hs := hs) (l := (j3 : Nat))
        refine xn_imp (k := 1 + 21) (xn_seq (k := 1) (l := 21) (xn_set (i := 10) (R := fun d => d ∈ goods hs (j3 : Nat)) (fun O => eu_imp (eu_call (ea_cons ((xf_lc (wf_enL xf_var) gf_two (gw_two (by simp) (by simp)) (bf_test (xf_op xf_var xf_var of_eqI)) xf_var) O _ _ (goods_ok (hs := hs) (l := (j3 : Nat)) (f := fVar 3) (fl := fVar 4) (a := 11) (b := 12) (w := dsB L F hs (some (.int (j3 : Nat))) (some e) (some e2) y10 none) rfl rfl (by omega) fun x y => ⟨rfl, rfl, rfl⟩)) ea_nil) rfl ⟨goods hs (j3 : Nat), rfl, gp, by omega⟩) fun d h => ?g1) (fun m hm => by simp only [List.mem_cons, List.not_mem_nil, or_false] at hm; rcases hm with rfl | rfl | rfl <;> exact ne_ rfl) (by decide)) fun M2 d2 h => ?_) (fun M2 d2 h => h) (by decide)
        case g1 =>
          obtain ⟨es, e1, h⟩ := h
          cases e1
          exact h
        obtain ⟨rfl, d, hd, rfl⟩ := h
        obtain ⟨i, hi, rfl, gi⟩ := goods_mem hd
        have mp : ∀ (O : List Addr) (X : XK), EvU K O u 0 (tCall (spHide (spU K 1 10 pre_map R_map)) [] X (tCons (tVar 0) (tCons (tVar 3) tNil))) (dsB L F hs (some (.int (j3 : Nat))) (some e) (some e2) (some (.int (i : Nat))) none) 10 (fun d => ∃ ms : List Int, d = hT ms ∧ ms.length = hs.length ∧ mapOk hs d = true ∧ ∀ m ∈ ms, 0 ≤ m ∧ m < hs.length) := fun O X => eu_imp (eu_call (ea_cons (ev_var (d := iL hs) (by rfl)) ea_nil) rfl ⟨hs, rfl, by omega⟩) fun d h => by
          obtain ⟨hs2, ms, e1, e2, z⟩ := h
          have : hs2 = hs := by
            have z := PyData.list.inj (List.cons.inj e1).1
            exact (List.map_inj_right (f := PyData.int) fun a b h => by cases h; rfl).mp z.symm
          subst this
          exact ⟨ms, e2, z⟩
        refine xn_imp (xn_append (j := 0) (i := 9) (es := rs) (R := fun d => RowP F hs (j3 : Nat) d) rfl (fun O => eu_imp (eu_tup (eau_cons (eu_take (n := F) (ev_var (by rfl)) f1 (by omega)) (eau_cons (eu_pure (ev_var (by rfl))) (eau_cons (mp O _) (eau_cons (mp O _) eau_nil)))) ?tl) ?tr) (ltS (by omega))) (fun M2 d2 h => ?_) (by decide)
        case tl =>
          intro es h
          obtain ⟨_, _, rfl, _, _, _, rfl, _, _, _, rfl, _, _, _, rfl, _, rfl⟩ := h
          show 4 ≤ sizeLine
          decide
        case tr =>
          intro d h
          obtain ⟨_, rfl, _, _, rfl, ⟨f, rfl, hf⟩, _, _, rfl, rfl, _, _, rfl, ⟨a, rfl, al, am, ar⟩, _, _, rfl, ⟨b, rfl, bl, bm, br⟩, rfl⟩ := h
          refine ⟨(f : Nat), (i : Nat), a, b, rfl, ?_, al, bl, fine_tup (by show 4 ≤ 10; decide) fun x hx => ?_⟩
          · show ((decide ((0 : Int) ≤ (f : Nat)) && decide (((f : Nat) : Int) < (F : Nat))) && (decide ((0 : Int) ≤ (i : Nat)) && decide (((i : Nat) : Int) < (hs.length : Nat)) && decide (hs.getD ((i : Nat) : Int).toNat 0 = (j3 : Nat))) && (mapOk hs (hT a) && mapOk hs (hT b))) = true
            rw [am, bm, decide_eq_true (by omega), decide_eq_true (by omega), decide_eq_true (by omega), decide_eq_true (by omega), decide_eq_true (by rw [Int.toNat_natCast]; exact gi)]
            rfl
          · simp only [List.mem_cons, List.not_mem_nil, or_false] at hx
            rcases hx with rfl | rfl | rfl | rfl
            · exact fine_atm (by show ((f : Nat) : Int) < 99; omega)
            · exact fine_atm (by show ((i : Nat) : Int) < 99; omega)
            · exact nums_fine (by omega) fun m hm => by have := (ar m hm).2; omega
            · exact nums_fine (by omega) fun m hm => by have := (br m hm).2; omega
        obtain ⟨rfl, r, hr, rfl⟩ := h
        refine ⟨rs ++ [r], _, _, rfl, rfl, by rw [List.length_append, rl]; rfl, fun i2 r2 hi2 => ?_⟩
        by_cases c : i2 < rs.length
        · rw [List.getElem?_append_left c] at hi2
          exact rf i2 r2 hi2
        · rw [List.getElem?_append_right (by omega)] at hi2
          have c2 : i2 - rs.length = 0 := by
            have := (List.getElem?_eq_some_iff.mp hi2).1
            simp at this
            omega
          rw [c2] at hi2
          cases hi2
          have : i2 = j3 := by omega
          subst this
          exact hr
      obtain ⟨rs, y4, y10, rfl, rfl, rl, rf⟩ := h
      rw [rngD_len] at rl
      refine xn_lose (xn_appX (j := 1) (i := 7) (es := ls) rfl (evx_M (d := .tuple rs) fun x => ?m1) (ltS (by omega))) fun M2 d2 h => ?_
      case m1 =>
        exact em_full (ev_cb (ea_cons (ev_var (by rfl)) ea_nil) cb_tupL) ⟨3, rows_fz rf⟩
      obtain ⟨rfl, t, rfl, rfl⟩ := h
      refine ⟨0, (by show 0 < 3; decide), ls ++ [.tuple rs], _, _, _, rfl, rfl, by rw [List.length_append, ll]; rfl, fun l hl => ?_⟩
      rcases List.mem_append.mp hl with hl | hl
      · exact lf l hl
      · rw [List.mem_singleton.mp hl]
        exact ⟨rs, rfl, rl, rf⟩
    obtain ⟨ls, y4, y8, y10, rfl, rfl, ll, lf⟩ := h
    rw [List.length_map] at ll
    refine xn_lose (xn_appX (j := 1) (i := 5) (es := ts) rfl (evx_M (d := .tuple ls) fun x => ?m2) (ltS (by omega))) fun M2 d2 h => ?_
    case m2 =>
      exact em_full (ev_cb (ea_cons (ev_var (by rfl)) ea_nil) cb_tupL) ⟨4, lines_fz lf⟩
    obtain ⟨rfl, t, rfl, rfl⟩ := h
    refine ⟨0, (by show 0 < 2; decide), ts ++ [.tuple ls], _, _, _, _, rfl, rfl, by rw [List.length_append, tl]; rfl, fun t ht => ?_⟩
    rcases List.mem_append.mp ht with ht | ht
    · exact tf t ht
    · rw [List.mem_singleton.mp ht]
      exact ⟨ls, rfl, ll, lf⟩
  obtain ⟨ts, y4, y6, y8, y10, rfl, rfl, tl, tf⟩ := h
  rw [rngD_len] at tl
  have gp := goods_pos (hc 0 (by omega))
  have gl := goods_len (hs := hs) (l := ((0 : Nat) : Int))
  refine xr_seq (k := 2) (xn_set (i := 13) (R := fun d => ∃ f i : Nat, d = .tuple [.int (f : Nat), .int (i : Nat)] ∧ f < F ∧ i < hs.length ∧ hs.getD i 0 = 0) (fun O => eu_imp (eu_tup (eau_cons (eu_take (n := F) (ev_var (by rfl)) f1 (by omega)) (eau_cons (eu_call (ea_cons ((xf_lc (wf_enL xf_var) gf_two (gw_two (by simp) (by simp)) (bf_test (xf_op xf_var xf_int of_eqI)) xf_var) O _ _ (goods_ok (hs := hs) (l := ((0 : Nat) : Int)) (f := fVar 3) (fl := fC (.int 0)) (a := 11) (b := 12) (w := dsB L F hs y4 y6 y8 y10 none) rfl rfl (by omega) fun x y => ⟨rfl, rfl, rfl⟩)) ea_nil) rfl ⟨goods hs ((0 : Nat) : Int), rfl, gp, by omega⟩) eau_nil)) ?b1) ?b2) (fun m hm => by cases List.mem_singleton.mp hm; exact ne_ rfl) (by decide)) fun M' ds' h => ?_
  case b1 =>
    intro es h
    obtain ⟨_, _, rfl, _, _, _, rfl, _, rfl⟩ := h
    show 2 ≤ sizeLine
    decide
  case b2 =>
    intro d h
    obtain ⟨_, rfl, _, _, rfl, ⟨f, rfl, hf⟩, _, _, rfl, ⟨es, e1, hd⟩, rfl⟩ := h
    cases e1
    obtain ⟨i, hi, rfl, g⟩ := goods_mem hd
    exact ⟨f, i, rfl, hf, hi, g⟩
  obtain ⟨rfl, d, ⟨f, i, rfl, hf, hi, g⟩, rfl⟩ := h
  refine xr_more (k := 3 + (0 + (0 + (0 + 0)))) (xr_retX (evx_imp (evx_tup (evax_cons (k := 3) (R := fun d => ∃ as, d = .tuple as ∧ as.length = F ∧ ∀ a ∈ as, ∃ v, a = .bool v) (evx_U fun O => eu_cb (eau_cons (k := 0 + 3 * 1) (j := 0) (eu_lc (M := 3) (k := 0) (j := 1) (S := fun es => es = rngD F) (P := fun d => ∃ v, d = .bool v) (fun e => (dsB L F hs y4 none y8 y10 (some (.tuple [.int (f : Nat), .int (i : Nat)]))).set 6 (some e)) (eiu_pure (show EvI K O _ _ (rngD F) from ei_rng1 (n := (F : Nat)) (ev_var (by rfl)) (by omega) (by omega))) (fun es h => by subst h; rw [rngD_len]; exact f2) (by decide) (by decide) (fun es h e he => gs_name (by simp)) (fun es h e he o => eu_op (k := 1) (j := 0) (eu_take (n := 2) ev_int (by decide) (by decide)) (eu_pure ev_int) fun a b ha hb => ?q1)) eau_nil) fun es h => ?q2) (evax_cons (k := 0) (evx_U fun O => eu_pure (d := .tuple (hs.map PyData.int)) (ev_cb (ea_cons (ev_var (d := iL hs) (by rfl)) ea_nil) cb_tupL)) (evax_cons (k := 0) (evx_U fun O => eu_pure (ev_var (by rfl))) (evax_cons (k := 0) (evx_M (d := .tuple ts) fun x => em_full (ev_cb (ea_cons (ev_var (by rfl)) ea_nil) cb_tupL) ⟨5, flags_fz tf⟩) evax_nil)))) ?q3) (fun d h => ?q4) (by decide))) (by decide)
  case q1 =>
    obtain ⟨N, rfl, _⟩ := ha
    subst hb
    exact ⟨.bool (decide (((N : Nat) : Int) = 0)), ⟨_, rfl⟩, od_eqI⟩
  case q2 =>
    obtain ⟨_, _, rfl, ⟨es, os, rfl, rfl, ol, op⟩, rfl⟩ := h
    rw [rngD_len] at ol
    exact ⟨.tuple os, ⟨os, rfl, ol, op⟩, cb_tupL⟩
  case q3 =>
    intro es h
    obtain ⟨_, _, rfl, _, _, _, rfl, _, _, _, rfl, _, _, _, rfl, _, rfl⟩ := h
    show 4 ≤ sizeLine
    decide
  case q4 =>
    obtain ⟨_, rfl, _, _, rfl, ⟨as, rfl, al, ab⟩, _, _, rfl, rfl, _, _, rfl, rfl, _, _, rfl, rfl, rfl⟩ := h
    subst al
    exact ⟨as, hs, _, ts, L + 1, rfl, book_is f1 f2 h1 h6 (by omega) (by omega) tl tf ab hr ⟨_, _, rfl, by omega, by omega, by omega, by omega, by rw [Int.toNat_natCast]; exact g⟩⟩
end
end K13
namespace K13
open PySem PySem.Spec PyProof.Rows L2 Ph
theorem ifE_ok {c : SEnv → Option Bool} {f g : SEnv → Option PyData} {ds : SEnv} {r : Option PyData} (h : c ds = some true) (h2 : f ds = r) : fIfE c f g ds = r := by
  unfold fIfE
  rw [h, Option.bind_some, if_pos rfl, h2]
theorem atm_lists {d : PyData} (h : atm d) (k : Nat) : F__law_lists (k + 1) [d] = some d := by
  cases d <;> first | rfl | cases h
theorem seq_lists {es : List PyData} {d : PyData} (k : Nat) (e : d = .tuple es ∨ d = .list es) (hl : es.length ≤ 1000) (g : PyData → PyData) (h : ∀ x ∈ es, F__law_lists k [x] = some (g x)) : F__law_lists (k + 1) [d] = some (.list (es.map g)) := by
  have key : ∀ d, (fTest (fIs (fun d => Ph.isList d || Ph.isTuple d) (fVar 0)) (startD N__law_lists [d])) = some true → wkS (fVar 0) (startD N__law_lists [d]) = some es → F__law_lists (k + 1) [d] = some (.list (es.map g)) := fun d t w => by
    unfold F__law_lists
    refine def_ret (?_ : fIfE _ _ _ _ = _)
    refine ifE_ok t ?_
    unfold fLc
    rw [w, Option.bind_some, if_pos (by omega), lc_tup (g := g) fun x m => ⟨[some d, some x], rfl, call_ok (one_ok (f := fVar 1) rfl) rfl (h x m)⟩]
    rfl
  rcases e with rfl | rfl
  · exact key _ rfl rfl
  · exact key _ rfl rfl
theorem lists_fine : ∀ {n m k : Nat} {d : PyData}, fine n m d → n < k → m ≤ 1000 → ∃ e, F__law_lists k [d] = some e ∧ fine n m e
  | 0, m, k + 1, d, h, _, _ => ⟨d, atm_lists h k, h⟩
  | n + 1, m, k + 1, d, h, hk, hm => by
    rcases h with h | ⟨es, e, hl, h⟩
    · exact ⟨d, atm_lists h k, fine_atm h⟩
    · have z : ∀ x ∈ es, F__law_lists k [x] = some ((F__law_lists k [x]).getD .none) ∧ fine n m ((F__law_lists k [x]).getD .none) := fun x hx => by
        obtain ⟨y, h1, h2⟩ := lists_fine (k := k) (h x hx) (by omega) hm
        rw [h1]
        exact ⟨rfl, h2⟩
      refine ⟨_, seq_lists k e (by omega) (fun x => (F__law_lists k [x]).getD .none) fun x hx => (z x hx).1, fine_lst (by rw [List.length_map]; exact hl) fun y hy => ?_⟩
      obtain ⟨x, hx, rfl⟩ := List.mem_map.mp hy
      exact (z x hx).2
/-- a list of truth values from a list of things -/
theorem judge_ok {F : List PyData → Option PyData} {j : PyData → Bool} {es : List PyData} {ds w : SEnv} {i v : Nat} {q : SEnv → Option (List PyData)} (hi : fVar i ds = some (.list es)) (hl : es.length ≤ 1000) (hw : wipeD ds [v] = w) (n : Nat) (as : PyData → List PyData) (ha : ∀ x ∈ es, q (w.set v (some x)) = some (as x) ∧ (as x).length = n ∧ F (as x) = some (.bool (j x))) :
    fLc (wkL (fVar i)) (tgName v) fYes (fCall n F q) [v] ds = some (.list (es.map fun x => .bool (j x))) := by
  unfold fLc
  have e : wkL (fVar i) ds = some es := by
    unfold wkL
    rw [hi]; rfl
  rw [e, Option.bind_some, if_pos (by omega), hw, lc_tup (g := fun x => .bool (j x)) fun x m => by
    obtain ⟨h1, h2, h3⟩ := ha x m
    exact ⟨_, rfl, call_ok h1 h2 h3⟩]
  rfl
theorem same_bools {es : List PyData} {j : PyData → Bool} (hl : es.length ≤ 1000) : R_same 6 [.list (es.map fun x => .bool (j x)), .list (es.map fun x => .bool (j x))] (.bool true) := by
  refine ⟨_, rfl, ?_, rfl⟩
  show _ ∧ ∀ e ∈ _, okD 4 e
  refine ⟨by rw [List.length_map]; omega, fun e he => ?_⟩
  obtain ⟨x, _, rfl⟩ := List.mem_map.mp he
  exact okD_scal rfl
theorem lst_ok {q : SEnv → Option (List PyData)} {es : List PyData} {ds : SEnv} (h : q ds = some es) (hl : es.length ≤ 1000000) : fLst q ds = some (.list es) := by
  unfold fLst
  rw [h, Option.bind_some, if_pos hl]
theorem tup_ok {q : SEnv → Option (List PyData)} {es : List PyData} {ds : SEnv} (h : q ds = some es) (hl : es.length ≤ 1000000) : fTup q ds = some (.tuple es) := by
  unfold fTup
  rw [h, Option.bind_some, if_pos hl]
theorem rngD_8 {K : PySem.W.Frag} {O : List Addr} {ds : List (Option PyData)} (n : Nat) (h : n ≤ 1000) : EvI K O (iRng1 (tCons (tC (.int (n : Nat))) tNil)) ds (rngD n) := ei_rng1 (n := (n : Nat)) ev_int (by omega) (by omega)
section
variable {P : Program} {w : World} {K : PySem.W.Frag} {mg : Str → Option Value} {base : Heap}
abbrev s__law_right : Stmt := top 38
abbrev N__law_right : List Str := ["urn", "book", "things", "lap", "flag", "hue", "letter", "at", "row", "new", "line", "own", "stand"]
theorem sc__law_right : FnScope N__law_right ["urn"] (defScope s__law_right) := ⟨rfl, rfl, rfl, by decide +kernel, rfl, by decide +kernel, by decide +kernel⟩
abbrev R_right : List PyData → PyData → Prop := fun _ d => d = .bool true
abbrev dsR (bk : PyData) (x2 x3 x4 x5 x6 x7 x8 x9 x10 x12 : Option PyData) : List (Option PyData) := [none, some bk, x2, x3, x4, x5, x6, x7, x8, x9, x10, none, x12]
theorem ixv {es : List PyData} {d : PyData} {ds : SEnv} {f : SEnv → Option PyData} (k : Nat) (h : f ds = some (.tuple es)) (hk : es[k]? = some d) : fOp gIxT f (fC (.int (k : Nat))) ds = some d := op_ok h rfl (ix_lit k hk)
theorem ixw {es : List PyData} {d : PyData} {ds : SEnv} {f g : SEnv → Option PyData} (k : Nat) (h : f ds = some (.tuple es)) (hg : g ds = some (.int (k : Nat))) (hk : es[k]? = some d) : fOp gIxT f g ds = some d := op_ok h hg (ix_lit k hk)
theorem lenv {es : List PyData} {ds : SEnv} {f : SEnv → Option PyData} (h : f ds = some (.tuple es)) : fCB hLen (fCons f fNil) ds = some (.int (es.length : Nat)) := cb_ok (one_ok h) rfl
theorem putv {es : List PyData} {x : PyData} {ds : SEnv} {f g h : SEnv → Option PyData} (a : Nat) (h1 : f ds = some (.tuple es)) (h2 : g ds = some (.int (a : Nat))) (h3 : h ds = some x) (hl : es.length ≤ 1000) : fCall 3 F__law_put (fCons f (fCons g (fCons h fNil))) ds = some (.tuple (putD es (a : Nat) x)) := call_ok (cons_ok h1 (cons_ok h2 (one_ok h3))) rfl (put_ok hl)
theorem ok__law_right {f : Addr} {fd : FuncData} (F : Fun K "_law_right" "_law_right" s__law_right f fd) (T : Blt mg) (Z : Blt2 mg) (C__law_take : Cal P w K mg base "_law_take" 1 ["urn", "low_so"] (spU K 1 1 pre_take R_take)) (C__law_book : Cal P w K mg base "_law_book" 4 ["urn"] (spU K 0 1400 (fun as => as = []) R_book)) (C__law_lists : Cal P w K mg base "_law_lists" 7 ["matter"] (spD K 1 fun as d => F__law_lists 7 as = some d)) (C__law_bent : Cal P w K mg base "_law_bent" 9 ["urn", "thing"] (spU K 1 28 (pre_bent 10 7) (R_bent 10 7))) (C__law_put : Cal P w K mg base "_law_put" 1 ["row", "at", "thing"] (spD K 3 fun as d => F__law_put as = some d)) (C_is_book : Cal P w K mg base "is_book" 9 ["thing"] (spD K 1 fun as d => F_is_book as = some d)) (C__law_is_book : Cal P w K mg base "_law_is_book" 5 ["thing"] (spD K 1 fun as d => F__law_is_book as = some d)) (C_is_stand : Cal P w K mg base "is_stand" 5 ["book", "thing"] (spD K 2 fun as d => F_is_stand as = some d)) (C__law_is_stand : Cal P w K mg base "_law_is_stand" 2 ["book", "thing"] (spD K 2 fun as d => F__law_is_stand as = some d)) (C__law_same : Cal P w K mg base "_law_same" 6 ["got", "goal"] (spD K 2 (R_same 6))) : FnOk P w K mg base CX0 10 f fd ["urn"] (spU K 0 3000 (fun as => as = []) R_right) := by
  refine fn_draw F sc__law_right rfl fun cdv A outer s H E hr => ?_
  have hu64 : (A.deeper (envOfC "_law_right" (defScope s__law_right) s.heap.objs.size f cdv)).units + 64 < cLine := hr.units
  refine ⟨_, (pss_cons (ps_set (i := 1) sc__law_right.nd rfl (Or.inr rfl) (pe_cal C__law_book (hr.mono (by decide)) (by rfl) (pa_cons (pv 0) pa_nil)))
      (pss_cons (ps_set (i := 2) sc__law_right.nd rfl (Or.inl rfl) (pe_op op_cat (pe_lst (pa_cons (pv 1) (pa_cons (pe_cal C__law_lists (hr.mono (by decide)) (by rfl) (pa_cons (pv 1) pa_nil)) pa_nil))) (pe_lc (own := [("lap", 3)]) (g := (gName 3)) (tt := tYes) (te := (tCall (spHide _) [] E0 (tCons (tVar 0) (tCons (tVar 1) tNil)))) rfl sc__law_right.nd (pi_range1 rfl T.range (pa_cons pe_int pa_nil)) (blkOk_by (N := N__law_right) (sc := defScope s__law_right) (by decide +kernel)) (fun _ _ _ _ _ => by exact (pg_name (i := 3) sc__law_right.nd rfl (Or.inl rfl))) (fun _ _ _ _ _ => by exact pts_nil) (fun _ _ _ _ _ => by exact (pe_cal C__law_bent (hr.mono (by decide)) (by rfl) (pa_cons (pv 0) (pa_cons (pv 1) pa_nil)))))))
      (pss_cons (ps_for PassesOwn.never rfl (pi_range1 rfl T.range (pa_cons pe_int pa_nil)) (pg_name (i := 3) sc__law_right.nd rfl (Or.inl rfl)) (pss_cons (ps_asg (pe_tup (pa_cons (pe_cal C__law_take (hr.mono (by decide)) (by rfl) (pa_cons (pv 0) (pa_cons (pe_callB call_len_seq (by rfl) T.len PySem.boot_len (pa_cons (pe_ix ix_tup (pv 1) pe_int (fun _ _ => rfl)) pa_nil)) pa_nil))) (pa_cons (pe_cal C__law_take (hr.mono (by decide)) (by rfl) (pa_cons (pv 0) (pa_cons (pe_callB call_len_seq (by rfl) T.len PySem.boot_len (pa_cons (pe_ix ix_tup (pv 1) pe_int (fun _ _ => rfl)) pa_nil)) pa_nil))) (pa_cons (pe_cal C__law_take (hr.mono (by decide)) (by rfl) (pa_cons (pv 0) (pa_cons (pe_callB call_len_seq (by rfl) T.len PySem.boot_len (pa_cons (pe_ix ix_tup (pe_ix ix_tup (pe_ix ix_tup (pv 1) pe_int (fun _ _ => rfl)) pe_int (fun _ _ => rfl)) pe_int (fun _ _ => rfl)) pa_nil)) pa_nil))) (pa_cons (pe_cal C__law_take (hr.mono (by decide)) (by rfl) (pa_cons (pv 0) (pa_cons pe_int pa_nil))) pa_nil))))) (pg_tup rfl (pgs_cons (pg_name (i := 4) sc__law_right.nd rfl (Or.inl rfl)) (pgs_cons (pg_name (i := 5) sc__law_right.nd rfl (Or.inl rfl)) (pgs_cons (pg_name (i := 6) sc__law_right.nd rfl (Or.inl rfl)) (pgs_cons (pg_name (i := 7) sc__law_right.nd rfl (Or.inl rfl)) pgs_nil))))))
      (pss_cons (ps_set (i := 8) sc__law_right.nd rfl (Or.inl rfl) (pe_ix ix_tup (pe_ix ix_tup (pe_ix ix_tup (pe_ix ix_tup (pv 1) pe_int (fun _ _ => rfl)) (pv 4) (fun _ _ => rfl)) (pv 5) (fun _ _ => rfl)) (pv 6) (fun _ _ => rfl)))
      (pss_cons (ps_set (i := 9) sc__law_right.nd rfl (Or.inl rfl) (pe_ifExp (pt_cmpR op_lt (pv 7) pe_int (nomark _)) (pe_cal C__law_take (hr.mono (by decide)) (by rfl) (pa_cons (pv 0) (pa_cons pe_int pa_nil))) (pe_cal C__law_put (hr.mono (by decide)) (by rfl) (pa_cons (pe_ix ix_tup (pv 8) (pv 7) (fun _ _ => rfl)) (pa_cons (pe_cal C__law_take (hr.mono (by decide)) (by rfl) (pa_cons (pv 0) (pa_cons (pe_callB call_len_seq (by rfl) T.len PySem.boot_len (pa_cons (pe_ix ix_tup (pv 8) (pv 7) (fun _ _ => rfl)) pa_nil)) pa_nil))) (pa_cons (pe_cal C__law_take (hr.mono (by decide)) (by rfl) (pa_cons (pv 0) (pa_cons (pe_callB call_len_seq (by rfl) T.len PySem.boot_len (pa_cons (pe_ix ix_tup (pv 1) pe_int (fun _ _ => rfl)) pa_nil)) pa_nil))) pa_nil))))))
      (pss_cons (ps_set (i := 10) sc__law_right.nd rfl (Or.inl rfl) (pe_cal C__law_put (hr.mono (by decide)) (by rfl) (pa_cons (pe_ix ix_tup (pe_ix ix_tup (pe_ix ix_tup (pv 1) pe_int (fun _ _ => rfl)) (pv 4) (fun _ _ => rfl)) (pv 5) (fun _ _ => rfl)) (pa_cons (pv 6) (pa_cons (pe_cal C__law_put (hr.mono (by decide)) (by rfl) (pa_cons (pv 8) (pa_cons (pv 7) (pa_cons (pv 9) pa_nil)))) pa_nil)))))
      (pss_one (ps_expr (pe_bm PySem.F.plainAttrs_list PySem.F.slot_list_append PySem.F.type_list_append mt_append (pv 2) (pa_cons (pe_cal C__law_put (hr.mono (by decide)) (by rfl) (pa_cons (pv 1) (pa_cons pe_int (pa_cons (pe_cal C__law_put (hr.mono (by decide)) (by rfl) (pa_cons (pe_ix ix_tup (pv 1) pe_int (fun _ _ => rfl)) (pa_cons (pv 4) (pa_cons (pe_cal C__law_put (hr.mono (by decide)) (by rfl) (pa_cons (pe_ix ix_tup (pe_ix ix_tup (pv 1) pe_int (fun _ _ => rfl)) (pv 4) (fun _ _ => rfl)) (pa_cons (pv 5) (pa_cons (pv 10) pa_nil)))) pa_nil)))) pa_nil)))) pa_nil)))))))))
      (pss_cons (ps_if (PW.pt (pw_or (pt_not (pt_val (pe_cal C__law_same (hr.mono (by decide)) (by rfl) (pa_cons (pe_lc (own := [("own", 11)]) (g := (gName 11)) (tt := tYes) (te := (tCall (spHide _) [] E0 (tCons (tVar 11) tNil))) rfl sc__law_right.nd (pi_list (pv 2)) (blkOk_by (N := N__law_right) (sc := defScope s__law_right) (by decide +kernel)) (fun _ _ _ _ _ => by exact (pg_name (i := 11) sc__law_right.nd rfl (Or.inl rfl))) (fun _ _ _ _ _ => by exact pts_nil) (fun _ _ _ _ _ => by exact (pe_cal C_is_book (hr.mono (by decide)) (by rfl) (pa_cons (pv 11) pa_nil)))) (pa_cons (pe_lc (own := [("own", 11)]) (g := (gName 11)) (tt := tYes) (te := (tCall (spHide _) [] E0 (tCons (tVar 11) tNil))) rfl sc__law_right.nd (pi_list (pv 2)) (blkOk_by (N := N__law_right) (sc := defScope s__law_right) (by decide +kernel)) (fun _ _ _ _ _ => by exact (pg_name (i := 11) sc__law_right.nd rfl (Or.inl rfl))) (fun _ _ _ _ _ => by exact pts_nil) (fun _ _ _ _ _ => by exact (pe_cal C__law_is_book (hr.mono (by decide)) (by rfl) (pa_cons (pv 11) pa_nil)))) pa_nil))))) (pw_or1 (pt_not (pt_val (pe_cal C__law_is_book (hr.mono (by decide)) (by rfl) (pa_cons (pv 1) pa_nil))))))) (pss_one (ps_ret pe_bl)) pss_nil)
      (pss_cons (ps_set (i := 12) sc__law_right.nd rfl (Or.inr rfl) (pe_tup (pa_cons (pe_cal C__law_take (hr.mono (by decide)) (by rfl) (pa_cons (pv 0) (pa_cons (pe_callB call_len_seq (by rfl) T.len PySem.boot_len (pa_cons (pe_ix ix_tup (pv 1) pe_int (fun _ _ => rfl)) pa_nil)) pa_nil))) (pa_cons (pe_callTy call_tuple_of (by rfl) T.tuple (by decide +kernel) (pa_cons (pe_lc (own := [("lap", 3)]) (g := (gName 3)) (tt := tYes) (te := (tCall (spHide _) [] E0 (tCons (tVar 0) (tCons (tCB (Ph.rLen K) (tCons (tOp (rIxT K) (tVar 1) (tC (.int 1))) tNil)) tNil)))) rfl sc__law_right.nd (pi_range1 rfl T.range (pa_cons (pe_op op_add pe_int (pe_cal C__law_take (hr.mono (by decide)) (by rfl) (pa_cons (pv 0) (pa_cons pe_int pa_nil)))) pa_nil)) (blkOk_by (N := N__law_right) (sc := defScope s__law_right) (by decide +kernel)) (fun _ _ _ _ _ => by exact (pg_name (i := 3) sc__law_right.nd rfl (Or.inl rfl))) (fun _ _ _ _ _ => by exact pts_nil) (fun _ _ _ _ _ => by exact (pe_cal C__law_take (hr.mono (by decide)) (by rfl) (pa_cons (pv 0) (pa_cons (pe_callB call_len_seq (by rfl) T.len PySem.boot_len (pa_cons (pe_ix ix_tup (pv 1) pe_int (fun _ _ => rfl)) pa_nil)) pa_nil))))) pa_nil)) pa_nil))))
      (pss_cons (ps_set (i := 2) sc__law_right.nd rfl (Or.inl rfl) (pe_op op_cat (pe_lst (pa_cons (pv 12) (pa_cons (pe_cal C__law_lists (hr.mono (by decide)) (by rfl) (pa_cons (pv 12) pa_nil)) (pa_cons (pe_tup (pa_cons (pe_ix ix_tup (pv 12) pe_int (fun _ _ => rfl)) (pa_cons (pe_callTy call_list_of (by rfl) T.list (by decide +kernel) (pa_cons (pe_ix ix_tup (pv 12) pe_int (fun _ _ => rfl)) pa_nil)) pa_nil))) pa_nil)))) (pe_lc (own := [("lap", 3)]) (g := (gName 3)) (tt := tYes) (te := (tCall (spHide _) [] E0 (tCons (tVar 0) (tCons (tVar 12) tNil)))) rfl sc__law_right.nd (pi_range1 rfl T.range (pa_cons pe_int pa_nil)) (blkOk_by (N := N__law_right) (sc := defScope s__law_right) (by decide +kernel)) (fun _ _ _ _ _ => by exact (pg_name (i := 3) sc__law_right.nd rfl (Or.inl rfl))) (fun _ _ _ _ _ => by exact pts_nil) (fun _ _ _ _ _ => by exact (pe_cal C__law_bent (hr.mono (by decide)) (by rfl) (pa_cons (pv 0) (pa_cons (pv 12) pa_nil)))))))
      (pss_one (ps_ret (pe_cal C__law_same (hr.mono (by decide)) (by rfl) (pa_cons (pe_lc (own := [("own", 11)]) (g := (gName 11)) (tt := tYes) (te := (tCall (spHide _) [] E0 (tCons (tVar 1) (tCons (tVar 11) tNil)))) rfl sc__law_right.nd (pi_list (pv 2)) (blkOk_by (N := N__law_right) (sc := defScope s__law_right) (by decide +kernel)) (fun _ _ _ _ _ => by exact (pg_name (i := 11) sc__law_right.nd rfl (Or.inl rfl))) (fun _ _ _ _ _ => by exact pts_nil) (fun _ _ _ _ _ => by exact (pe_cal C_is_stand (hr.mono (by decide)) (by rfl) (pa_cons (pv 1) (pa_cons (pv 11) pa_nil))))) (pa_cons (pe_lc (own := [("own", 11)]) (g := (gName 11)) (tt := tYes) (te := (tCall (spHide _) [] E0 (tCons (tVar 1) (tCons (tVar 11) tNil)))) rfl sc__law_right.nd (pi_list (pv 2)) (blkOk_by (N := N__law_right) (sc := defScope s__law_right) (by decide +kernel)) (fun _ _ _ _ _ => by exact (pg_name (i := 11) sc__law_right.nd rfl (Or.inl rfl))) (fun _ _ _ _ _ => by exact pts_nil) (fun _ _ _ _ _ => by exact (pe_cal C__law_is_stand (hr.mono (by decide)) (by rfl) (pa_cons (pv 1) (pa_cons (pv 11) pa_nil))))) pa_nil))))))))))), fun u as hl hp => ?_⟩
  subst hp
  refine su_x (xr_more (k := 1400 + (224 + (24 + (0 + (6 + (168 + 0)))))) (xr_seq (xn_set (i := 1) (fun O => eu_call ea_nil rfl rfl) no_m (by decide)) fun M' ds' h => ?_) (by decide)) rfl
  obtain ⟨rfl, d, ⟨ans, hs, beg, ts, w, rfl, B⟩, rfl⟩ := h
  obtain ⟨a1, a3, h1, h6, w1, w3, tl, tf, ok, fi⟩ := B
  obtain ⟨lb, hlb, flb⟩ := lists_fine (k := 7) fi (by decide) (by decide)
  refine xr_seq (k := 224) (xn_newX (i := 2) (S := fun es => es.length ≤ 10 ∧ ∀ e ∈ es, fine 7 30 e) (fun B ps σ H n s hn Q q => (efx_cat (k := 0) (j := 0 + 8 * 28) (S1 := fun es => es = [bk ans hs beg (.tuple ts), lb]) (S2 := fun es => es.length = 8 ∧ ∀ e ∈ es, fine 7 30 e) (evx_U fun O => eu_imp (eu_pure ((xf_lst (af_cons xf_var (af_cons (xf_call (af_cons xf_var af_nil)) af_nil))) O _ (.list [bk ans hs beg (.tuple ts), lb]) ?e1)) fun d h => ⟨_, h, rfl⟩) (evx_U fun O => eu_imp (eu_lc (M := 8) (k := 0) (j := 28) (S := fun es => es = rngD 8) (P := fun d => fine 7 30 d) (fun e => (dsR (bk ans hs beg (.tuple ts)) none none none none none none none none none none).set 3 (some e)) (eiu_pure (rngD_8 8 (by decide))) (fun es h => by subst h; exact Nat.le_refl _) (by decide) (by decide) (fun es h e he => gs_name (by simp)) (fun es h e he o => eu_imp (eu_call (ea_cons (ev_var (by rfl)) ea_nil) rfl ⟨6, _, rfl, rfl, fi⟩) fun d h => h)) fun d h => ?e2) fun as bs ha hb => ?e3) B ps σ H n s hn Q fun p vs es H1 r => q p vs es H1 ?e4) no_m (by decide) (by show 2 < 13; decide)) fun M' ds' h => ?_
  case e1 =>
    exact lst_ok (cons_ok (f := fVar 1) rfl (one_ok (call_ok (F := F__law_lists 7) (n := 1) (one_ok (f := fVar 1) rfl) rfl hlb))) (by show 2 ≤ 1000000; decide)
  case e2 =>
    obtain ⟨es, os, rfl, rfl, ol, op⟩ := h
    exact ⟨os, rfl, ol, op⟩
  case e3 =>
    subst ha
    rw [hb.1]
    show 2 + 8 ≤ sizeLine
    decide
  case e4 =>
    obtain ⟨as, bs, rfl, ⟨bl, bf⟩, rfl⟩ := r
    refine ⟨by rw [List.length_append, bl]; show 2 + 8 ≤ 10; decide, fun e he => ?_⟩
    rcases List.mem_append.mp he with he | he
    · simp only [List.mem_cons, List.not_mem_nil, or_false] at he
      rcases he with rfl | rfl
      · exact fine_mono (by decide) (by decide) fi
      · exact fine_mono (by decide) (by decide) flb
    · exact bf e he
  obtain ⟨es, ⟨el, ef⟩, rfl, rfl⟩ := h
  -- one number more or less
  have hls : (hs.map PyData.int).length = hs.length := List.length_map ..
  have lp : ∀ t, (ht : t < ts.length) → ∃ ls, ts[t]? = some (.tuple ls) ∧ ls.length = hs.length ∧ ∀ l, (hl : l < ls.length) → ∃ rs, ls[l]? = some (.tuple rs) ∧ rs.length = w ∧ ∀ r, (hr : r < rs.length) → ∃ (f o : Int) (a b : List Int), rs[r]? = some (.tuple [.int f, .int o, hT a, hT b]) ∧ a.length = hs.length ∧ b.length = hs.length ∧ fine 2 10 (.tuple [.int f, .int o, hT a, hT b]) := fun t ht => by
    obtain ⟨ls, e, ll, z⟩ := tf ts[t] (List.getElem_mem ht)
    refine ⟨ls, by rw [List.getElem?_eq_getElem ht, e], ll, fun l hl => ?_⟩
    obtain ⟨rs, e, rl, z⟩ := z ls[l] (List.getElem_mem hl)
    refine ⟨rs, by rw [List.getElem?_eq_getElem hl, e], rl, fun r hr => ?_⟩
    obtain ⟨f, o, a, b, e, _, al, bl, fr⟩ := z r rs[r] (List.getElem?_eq_getElem hr)
    rw [e] at fr
    exact ⟨f, o, a, b, by rw [List.getElem?_eq_getElem hr, e], al, bl, fr⟩
  have ft : ∀ t ∈ ts, fine 4 10 t := fun t ht => flag_fine w3 h6 (tf t ht)
  refine xr_seq (k := 24) (xn_imp (xn_forX (i := 3) (l := 6) (xs := rngD 4) (fun j M ds => ∃ (es : List PyData) (x3 x4 x5 x6 x7 x8 x9 x10 : Option PyData), M = [(2, .l es)] ∧ ds = dsR (bk ans hs beg (.tuple ts)) none x3 x4 x5 x6 x7 x8 x9 x10 none ∧ es.length ≤ 10 + j ∧ ∀ e ∈ es, fine 7 30 e) (eix_U fun O => eiu_pure (rngD_8 4 (by decide))) ⟨es, none, none, none, none, none, none, none, none, rfl, rfl, el, ef⟩ (by decide) ?sl ?ht) (fun M' ds' h => h) (by decide)) fun M' ds' h => ?_
  case sl =>
    rintro j M ds ⟨es, x3, x4, x5, x6, x7, x8, x9, x10, rfl, _⟩ m hm
    cases List.mem_singleton.mp hm
    exact ne_ rfl
  case ht =>
    rintro j e M ds he ⟨es, x3, x4, x5, x6, x7, x8, x9, x10, rfl, rfl, el, ef⟩
    have hj := (List.getElem?_eq_some_iff.mp he).1
    rw [rngD_len] at hj
    obtain ⟨l0, e0, ll0, z0⟩ := lp 0 (by omega)
    obtain ⟨r0, e00, rl0, _⟩ := z0 0 (by omega)
    have b3 : ∀ ds : SEnv, fVar 1 ds = some (bk ans hs beg (.tuple ts)) → fOp gIxT (fVar 1) (fC (.int (3 : Nat))) ds = some (.tuple ts) := fun ds h => ixv 3 h rfl
    have b0 : ∀ ds : SEnv, fVar 1 ds = some (bk ans hs beg (.tuple ts)) → fOp gIxT (fVar 1) (fC (.int (0 : Nat))) ds = some (.tuple ans) := fun ds h => ixv 0 h rfl
    have b1 : ∀ ds : SEnv, fVar 1 ds = some (bk ans hs beg (.tuple ts)) → fOp gIxT (fVar 1) (fC (.int (1 : Nat))) ds = some (hT hs) := fun ds h => ixv 1 h rfl
    refine xn_imp (k := 4 + (0 + (2 + (0 + 0)))) (xn_seq (k := 4) (xn_asgX (vs := [4, 5, 6, 7]) (R := fun d => ∃ f h l a : Nat, d = .tuple [.int (f : Nat), .int (h : Nat), .int (l : Nat), .int (a : Nat)] ∧ f < ans.length ∧ h < hs.length ∧ l < w ∧ a < 4) (ds1 := fun d => match d with | .tuple [a, b, c, d] => dsR (bk ans hs beg (.tuple ts)) none (some e) (some a) (some b) (some c) (some d) x8 x9 x10 none | _ => []) (evx_U fun O => eu_imp (eu_tup (eau_cons (eu_take (n := ans.length) ((xf_cb (af_cons (xf_op xf_var xf_int of_ixT) af_nil) hf_len) O _ _ (lenv (b0 _ rfl))) a1 (by omega)) (eau_cons (eu_take (n := (hs.map PyData.int).length) ((xf_cb (af_cons (xf_op xf_var xf_int of_ixT) af_nil) hf_len) O _ _ (lenv (b1 _ rfl))) (by omega) (by omega)) (eau_cons (eu_take (n := r0.length) ((xf_cb (af_cons (xf_op (xf_op (xf_op xf_var xf_int of_ixT) xf_int of_ixT) xf_int of_ixT) af_nil) hf_len) O _ _ (lenv (ixv 0 (ixv 0 (b3 _ rfl) e0) e00))) (by omega) (by omega)) (eau_cons (eu_take (n := 4) ev_int (by decide) (by decide)) eau_nil)))) ?t1) ?t2) ?t3 (fun m hm => by cases List.mem_singleton.mp hm; simp) (by simp)) fun M2 d2 h => ?_) (fun M2 d2 h => h) (by decide)
    case t1 =>
      intro es h
      obtain ⟨_, _, rfl, _, _, _, rfl, _, _, _, rfl, _, _, _, rfl, _, rfl⟩ := h
      show 4 ≤ sizeLine
      decide
    case t2 =>
      intro d h
      obtain ⟨_, rfl, _, _, rfl, ⟨f, rfl, hf⟩, _, _, rfl, ⟨h, rfl, hh⟩, _, _, rfl, ⟨l, rfl, hl⟩, _, _, rfl, ⟨a, rfl, ha⟩, rfl⟩ := h
      exact ⟨f, h, l, a, rfl, hf, by omega, by omega, ha⟩
    case t3 =>
      intro d h
      obtain ⟨f, h, l, a, rfl, _⟩ := h
      exact gs_four (by simp) (by simp) (by simp) (by simp)
    obtain ⟨rfl, d, ⟨f, h, l, a, rfl, hf, hh, hl, ha⟩, rfl⟩ := h
    obtain ⟨ls, ets, lls, zls⟩ := lp f (by omega)
    obtain ⟨rs, els, lrs, zrs⟩ := zls h (by omega)
    obtain ⟨rf, ro, ra, rb, ers, al, bl, fr⟩ := zrs l (by omega)
    refine xn_seq (k := 0) (xn_set (i := 8) (R := fun d => d = .tuple [.int rf, .int ro, hT ra, hT rb]) (fun O => eu_pure ((xf_op (xf_op (xf_op (xf_op xf_var xf_int of_ixT) xf_var of_ixT) xf_var of_ixT) xf_var of_ixT) O _ _ (ixw l (ixw h (ixw f (b3 _ rfl) rfl ets) rfl els) rfl ers))) (fun m hm => by cases List.mem_singleton.mp hm; exact ne_ rfl) (by decide)) fun M2 d2 h => ?_
    obtain ⟨rfl, d, rfl, rfl⟩ := h
    have frs : ∀ e ∈ ([.int rf, .int ro, hT ra, hT rb] : List PyData), fine 1 10 e := by
      obtain ⟨k, e, _, z⟩ := fine_sub fr
      cases e
      exact z
    refine xn_seq (k := 2) (xn_set (i := 9) (R := fun d => fine 1 30 d) (fun O => eu_ifE (k := 2) (b := decide ((a : Int) < 2)) ((bf_test (xf_op xf_var xf_int of_lt)) O _ _ rfl) (fun _ => eu_more (eu_imp (eu_take (n := 4) ev_int (by decide) (by decide)) fun d h => ?n1) (by decide)) (fun c => ?n2)) (fun m hm => by cases List.mem_singleton.mp hm; exact ne_ rfl) (by decide)) fun M2 d2 h => ?_
    case n1 =>
      obtain ⟨N, rfl, hN⟩ := h
      exact fine_atm (by show ((N : Nat) : Int) < 99; omega)
    case n2 =>
      have c2 : ¬ ((a : Int) < 2) := of_decide_eq_false c
      obtain ⟨q, eq, ql, qf⟩ : ∃ q : List Int, ([.int rf, .int ro, hT ra, hT rb] : List PyData)[a]? = some (hT q) ∧ q.length = hs.length ∧ fine 1 10 (hT q) := by
        have : a = 2 ∨ a = 3 := by omega
        rcases this with rfl | rfl
        · exact ⟨ra, rfl, al, frs _ (by simp)⟩
        · exact ⟨rb, rfl, bl, frs _ (by simp)⟩
      have hq : (q.map PyData.int).length = q.length := List.length_map ..
      refine eu_imp (eu_cal (k := 0 + (1 + (1 + 0))) (R := fun d => fine 1 30 d) (eau_cons (eu_pure ((xf_op xf_var xf_var of_ixT) O _ _ (ixw a (show fVar 8 _ = some (.tuple [.int rf, .int ro, hT ra, hT rb]) from rfl) rfl eq))) (eau_cons (eu_take (n := (q.map PyData.int).length) ((xf_cb (af_cons (xf_op xf_var xf_var of_ixT) af_nil) hf_len) O _ _ (lenv (ixw a (show fVar 8 _ = some (.tuple [.int rf, .int ro, hT ra, hT rb]) from rfl) rfl eq))) (by omega) (by omega)) (eau_cons (eu_take (n := (hs.map PyData.int).length) ((xf_cb (af_cons (xf_op xf_var xf_int of_ixT) af_nil) hf_len) O _ _ (lenv (b1 _ rfl))) (by omega) (by omega)) eau_nil))) fun fs hh => ?n3) fun d h => h
      case n3 =>
        obtain ⟨_, _, rfl, rfl, _, _, rfl, ⟨i, rfl, hi⟩, _, _, rfl, ⟨v, rfl, hv⟩, rfl⟩ := hh
        refine ⟨rfl, .tuple (putD (q.map PyData.int) (i : Nat) (.int (v : Nat))), ?_, put_ok (by omega)⟩
        obtain ⟨k, e, qlen, z⟩ := fine_sub qf
        cases e
        exact fine_put (m := 10) z (fine_atm (by show ((v : Nat) : Int) < 99; omega)) qlen (by decide)
    obtain ⟨rfl, nw, hnw, rfl⟩ := h
    have frow : fine 2 30 (.tuple (putD [.int rf, .int ro, hT ra, hT rb] (a : Nat) nw)) := fine_put (m := 10) frs hnw (by show 4 ≤ 10; decide) (by decide)
    have frs2 : ∀ r ∈ rs, fine 2 10 r := fun r hr => by
      obtain ⟨k, hk⟩ := List.getElem?_of_mem hr
      obtain ⟨_, _, _, _, e, _, _, z⟩ := zrs k (List.getElem?_eq_some_iff.mp hk).1
      rw [hk] at e
      cases e
      exact z
    have fline : fine 3 30 (.tuple (putD rs (l : Nat) (.tuple (putD [.int rf, .int ro, hT ra, hT rb] (a : Nat) nw)))) := fine_put (m := 10) frs2 frow (by omega) (by decide)
    refine xn_seq (k := 0) (xn_set (i := 10) (R := fun d => d = .tuple (putD rs (l : Nat) (.tuple (putD [.int rf, .int ro, hT ra, hT rb] (a : Nat) nw)))) (fun O => eu_pure ((xf_call (af_cons (xf_op (xf_op (xf_op xf_var xf_int of_ixT) xf_var of_ixT) xf_var of_ixT) (af_cons xf_var (af_cons (xf_call (af_cons xf_var (af_cons xf_var (af_cons xf_var af_nil)))) af_nil)))) O _ _ (putv l (ixw h (ixw f (b3 _ rfl) rfl ets) rfl els) rfl (putv a (show fVar 8 _ = some (.tuple [.int rf, .int ro, hT ra, hT rb]) from rfl) rfl (show fVar 9 _ = some nw from rfl) (by show 4 ≤ 1000; decide)) (by omega)))) (fun m hm => by cases List.mem_singleton.mp hm; exact ne_ rfl) (by decide)) fun M2 d2 h => ?_
    obtain ⟨rfl, d, rfl, rfl⟩ := h
    have fls : ∀ l ∈ ls, fine 3 10 l := fun l hl => by
      obtain ⟨ls2, e, _, z⟩ := tf (.tuple ls) (List.mem_of_getElem? ets)
      cases e
      exact line_fine w3 (z l hl)
    have fflag := fine_put (m := 10) (a := (h : Nat)) fls fline (by omega) (by decide)
    have frows := fine_put (m := 10) (a := (f : Nat)) ft fflag (by omega) (by decide)
    have fbook := fine_put (m := 10) (es := [.tuple ans, hT hs, beg, .tuple ts]) (a := ((3 : Nat) : Int)) (by obtain ⟨k, e, _, z⟩ := fine_sub fi; cases e; exact z) frows (by show 4 ≤ 10; decide) (by decide)
    refine xn_imp (xn_append (j := 0) (i := 2) (es := es) (R := fun d => fine 7 30 d) rfl (fun O => eu_imp (eu_pure ((xf_call (af_cons xf_var (af_cons xf_int (af_cons (xf_call (af_cons (xf_op xf_var xf_int of_ixT) (af_cons xf_var (af_cons (xf_call (af_cons (xf_op (xf_op xf_var xf_int of_ixT) xf_var of_ixT) (af_cons xf_var (af_cons xf_var af_nil)))) af_nil)))) af_nil)))) O _ _ (putv 3 (show fVar 1 _ = some (bk ans hs beg (.tuple ts)) from rfl) rfl (putv f (b3 _ rfl) rfl (putv h (ixw f (b3 _ rfl) rfl ets) rfl rfl (by omega)) (by omega)) (by show 4 ≤ 1000; decide)))) fun d h => by subst h; exact fine_mono (by decide) (by decide) fbook) (ltS (by omega))) (fun M2 d2 h => ?_) (Nat.le_refl _)
    obtain ⟨rfl, x, hx, rfl⟩ := h
    refine ⟨es ++ [x], _, _, _, _, _, _, _, _, rfl, rfl, by rw [List.length_append]; show es.length + 1 ≤ _; omega, fun y hy => ?_⟩
    rcases List.mem_append.mp hy with hy | hy
    · exact ef y hy
    · rw [List.mem_singleton.mp hy]
      exact hx
  clear el ef
  obtain ⟨es, x3, x4, x5, x6, x7, x8, x9, x10, rfl, rfl, el, ef⟩ := h
  rw [rngD_len] at el
  have lbk : F__law_is_book [bk ans hs beg (.tuple ts)] = some (.bool true) := by rw [← ok]; exact (fine_book fi (by decide) (by decide)).2
  refine xr_ifRet (k := 0) (P := fun b => b = false) (xb_pure (b := false) fun x => bm_full ?tst) (fun c => by cases c) (fun _ => ?_)
  case tst =>
    have j1 := judge_ok (F := F_is_book) (j := bookOk) (es := es) (ds := fill (dsR (bk ans hs beg (.tuple ts)) none x3 x4 x5 x6 x7 x8 x9 x10 none) (XS [(2, .l es)] u x)) (i := 2) (v := 11) (q := fCons (fVar 11) fNil) (w := _) rfl (by omega) rfl 1 (fun x => [x]) fun y hy => ⟨rfl, rfl, (fine_book (ef y hy) (by decide) (by decide)).1⟩
    have j2 := judge_ok (F := F__law_is_book) (j := bookOk) (es := es) (ds := fill (dsR (bk ans hs beg (.tuple ts)) none x3 x4 x5 x6 x7 x8 x9 x10 none) (XS [(2, .l es)] u x)) (i := 2) (v := 11) (q := fCons (fVar 11) fNil) (w := _) rfl (by omega) rfl 1 (fun x => [x]) fun y hy => ⟨rfl, rfl, (fine_book (ef y hy) (by decide) (by decide)).2⟩
    refine eb_or (a := false) (b := false) (eb_not (b := true) (eb_B (ev_call (ea_cons ((xf_lc (wf_lst xf_var) gf_name (gw_name (by simp)) bf_yes (xf_call (af_cons xf_var af_nil))) [] _ _ j1) (ea_cons ((xf_lc (wf_lst xf_var) gf_name (gw_name (by simp)) bf_yes (xf_call (af_cons xf_var af_nil))) [] _ _ j2) ea_nil)) rfl (same_bools (by omega))))) fun _ => eb_not (b := true) (eb_B ((xf_call (af_cons xf_var af_nil)) [] _ _ (call_ok (one_ok (f := fVar 1) rfl) rfl lbk)))
  have b0 : ∀ ds : SEnv, fVar 1 ds = some (bk ans hs beg (.tuple ts)) → fOp gIxT (fVar 1) (fC (.int (0 : Nat))) ds = some (.tuple ans) := fun ds h => ixv 0 h rfl
  have b1 : ∀ ds : SEnv, fVar 1 ds = some (bk ans hs beg (.tuple ts)) → fOp gIxT (fVar 1) (fC (.int (1 : Nat))) ds = some (hT hs) := fun ds h => ixv 1 h rfl
  clear lp ft hlb flb el ef
  -- the stand
  refine xr_seq (k := 6) (xn_lose (S2 := fun M' ds' => M' = [] ∧ ∃ (f : Int) (xs : List PyData), ds' = dsR (bk ans hs beg (.tuple ts)) none x3 x4 x5 x6 x7 x8 x9 x10 (some (.tuple [.int f, .tuple xs])) ∧ xs.length ≤ 10 ∧ fine 2 10 (.tuple [.int f, .tuple xs])) (xn_set (i := 12) (k := 1 + (5 + 0)) (R := fun d => ∃ (f : Int) (xs : List PyData), d = .tuple [.int f, .tuple xs] ∧ xs.length ≤ 10 ∧ fine 2 10 (.tuple [.int f, .tuple xs])) (fun O => eu_imp (eu_tup (eau_cons (k := 1) (eu_take (n := ans.length) ((xf_cb (af_cons (xf_op xf_var xf_int of_ixT) af_nil) hf_len) O _ _ (lenv (b0 _ rfl))) a1 (by omega)) (eau_cons (k := 5) (j := 0) (R := fun d => ∃ xs : List PyData, d = .tuple xs ∧ xs.length ≤ 10 ∧ ∀ x ∈ xs, fine 0 10 x) (eu_cb (eau_cons (k := 1 + 4 * 1) (j := 0) (eu_lc (M := 4) (k := 1) (j := 1) (S := fun es => ∃ N : Nat, N ≤ 4 ∧ es = rngD N) (P := fun d => fine 0 10 d) (fun e => (dsR (bk ans hs beg (.tuple ts)) none none x4 x5 x6 x7 x8 x9 x10 none).set 3 (some e)) (eiu_rng (M := 4) (eu_imp (eu_one 4 (by decide) (by decide)) fun d h => by obtain ⟨L, e, _, l⟩ := h; exact ⟨L, l, e⟩) (by decide)) (fun es h => by obtain ⟨N, l, rfl⟩ := h; rw [rngD_len]; exact l) (by decide) (by decide) (fun es h e he => gs_name (by simp)) (fun es h e he o => eu_imp (eu_take (n := (hs.map PyData.int).length) ((xf_cb (af_cons (xf_op xf_var xf_int of_ixT) af_nil) hf_len) o _ _ (lenv (b1 _ rfl))) (by omega) (by omega)) fun d h => ?s1)) eau_nil) fun es h => ?s2) eau_nil)) ?s3) ?s4) (fun m hm => by cases List.mem_singleton.mp hm; exact ne_ rfl) (by decide)) fun M' ds' h => ?s5) fun M' ds' h => ?_
  case s1 =>
    obtain ⟨N, rfl, l⟩ := h
    show ((N : Nat) : Int) < 99
    omega
  case s2 =>
    obtain ⟨_, _, rfl, ⟨es, os, ⟨N, hN, rfl⟩, rfl, ol, op⟩, rfl⟩ := h
    rw [rngD_len] at ol
    exact ⟨.tuple os, ⟨os, rfl, by omega, op⟩, cb_tupL⟩
  case s3 =>
    intro es h
    obtain ⟨_, _, rfl, _, _, _, rfl, _, rfl⟩ := h
    show 2 ≤ sizeLine
    decide
  case s4 =>
    intro d h
    obtain ⟨_, rfl, _, _, rfl, ⟨f, rfl, hf⟩, _, _, rfl, ⟨xs, rfl, xl, xf⟩, rfl⟩ := h
    refine ⟨(f : Nat), xs, rfl, xl, fine_tup (by show 2 ≤ 10; decide) fun e he => ?_⟩
    simp only [List.mem_cons, List.not_mem_nil, or_false] at he
    rcases he with rfl | rfl
    · exact fine_atm (by show ((f : Nat) : Int) < 99; omega)
    · exact fine_tup xl xf
  case s5 =>
    obtain ⟨rfl, d, ⟨f, xs, rfl, xl, fs⟩, rfl⟩ := h
    exact ⟨0, (by show 0 < 1; decide), rfl, f, xs, rfl, xl, fs⟩
  obtain ⟨rfl, f, xs, rfl, xl, fst⟩ := h
  obtain ⟨ls, hls2, fls⟩ := lists_fine (k := 7) fst (by decide) (by decide)
  have fxs : ∀ x ∈ xs, fine 0 10 x := by
    obtain ⟨k, e, _, z⟩ := fine_sub fst
    cases e
    obtain ⟨k, e, _, z⟩ := fine_sub (z (.tuple xs) (by simp))
    cases e
    exact z
  refine xr_seq (k := 168) (xn_newX (i := 2) (S := fun es => es.length ≤ 10 ∧ ∀ e ∈ es, fine 7 30 e) (fun B ps σ H n s hn Q q => (efx_cat (k := 0) (j := 0 + 6 * 28) (S1 := fun es => es = [.tuple [.int f, .tuple xs], ls, .tuple [.int f, .list xs]]) (S2 := fun es => es.length = 6 ∧ ∀ e ∈ es, fine 7 30 e) (evx_U fun O => eu_imp (eu_pure ((xf_lst (af_cons xf_var (af_cons (xf_call (af_cons xf_var af_nil)) (af_cons (xf_tup (af_cons (xf_op xf_var xf_int of_ixT) (af_cons (xf_cb (af_cons (xf_op xf_var xf_int of_ixT) af_nil) hf_lst) af_nil))) af_nil)))) O _ (.list [.tuple [.int f, .tuple xs], ls, .tuple [.int f, .list xs]]) ?r1)) fun d h => ⟨_, h, rfl⟩) (evx_U fun O => eu_imp (eu_lc (M := 6) (k := 0) (j := 28) (S := fun es => es = rngD 6) (P := fun d => fine 7 30 d) (fun e => (dsR (bk ans hs beg (.tuple ts)) none none x4 x5 x6 x7 x8 x9 x10 (some (.tuple [.int f, .tuple xs]))).set 3 (some e)) (eiu_pure (rngD_8 6 (by decide))) (fun es h => by subst h; exact Nat.le_refl _) (by decide) (by decide) (fun es h e he => gs_name (by simp)) (fun es h e he o => eu_imp (eu_call (ea_cons (ev_var (by rfl)) ea_nil) rfl ⟨6, _, rfl, rfl, fine_mono (by decide) (by decide) fst⟩) fun d h => h)) fun d h => ?r2) fun as bs ha hb => ?r3) B ps σ H n s hn Q fun p vs es H1 r => q p vs es H1 ?r4) no_m (by decide) (by show 2 < 13; decide)) fun M' ds' h => ?_
  case r1 =>
    exact lst_ok (cons_ok (f := fVar 12) rfl (cons_ok (call_ok (F := F__law_lists 7) (n := 1) (one_ok (f := fVar 12) rfl) rfl hls2) (one_ok (tup_ok (es := [.int f, .list xs]) (cons_ok (ixv 0 (show fVar 12 _ = some (.tuple [.int f, .tuple xs]) from rfl) rfl) (one_ok (cb_ok (one_ok (ixv 1 (show fVar 12 _ = some (.tuple [.int f, .tuple xs]) from rfl) rfl)) rfl))) (by show 2 ≤ 1000000; decide))))) (by show 3 ≤ 1000000; decide)
  case r2 =>
    obtain ⟨es, os, rfl, rfl, ol, op⟩ := h
    exact ⟨os, rfl, ol, op⟩
  case r3 =>
    subst ha
    rw [hb.1]
    show 3 + 6 ≤ sizeLine
    decide
  case r4 =>
    obtain ⟨as, bs, rfl, ⟨bl, bf⟩, rfl⟩ := r
    refine ⟨by rw [List.length_append, bl]; show 3 + 6 ≤ 10; decide, fun e he => ?_⟩
    rcases List.mem_append.mp he with he | he
    · simp only [List.mem_cons, List.not_mem_nil, or_false] at he
      rcases he with rfl | rfl | rfl
      · exact fine_mono (by decide) (by decide) fst
      · exact fine_mono (by decide) (by decide) fls
      · refine fine_tup (by show 2 ≤ 30; decide) fun e he => ?_
        simp only [List.mem_cons, List.not_mem_nil, or_false] at he
        rcases he with rfl | rfl
        · obtain ⟨k, e, _, z⟩ := fine_sub fst
          exact fine_mono (by omega) (by decide) (z (.int f) (by simp))
        · exact fine_lst (by omega) fun x hx => fine_mono (by decide) (by decide) (fxs x hx)
    · exact bf e he
  obtain ⟨es, ⟨el, ef⟩, rfl, rfl⟩ := h
  refine xr_ret (d := .bool true) (fun x => ?_) (fz_scal rfl) rfl
  have j1 := judge_ok (F := F_is_stand) (j := stOk ans.length hs.length) (es := es) (ds := fill (dsR (bk ans hs beg (.tuple ts)) none x3 x4 x5 x6 x7 x8 x9 x10 (some (.tuple [.int f, .tuple xs]))) (XS [(2, .l es)] u x)) (i := 2) (v := 11) (q := fCons (fVar 1) (fCons (fVar 11) fNil)) (w := _) rfl (by omega) rfl 2 (fun x => [bk ans hs beg (.tuple ts), x]) fun y hy => ⟨rfl, rfl, (fine_stand (ef y hy) (by decide) (by decide)).1⟩
  have j2 := judge_ok (F := F__law_is_stand) (j := stOk ans.length hs.length) (es := es) (ds := fill (dsR (bk ans hs beg (.tuple ts)) none x3 x4 x5 x6 x7 x8 x9 x10 (some (.tuple [.int f, .tuple xs]))) (XS [(2, .l es)] u x)) (i := 2) (v := 11) (q := fCons (fVar 1) (fCons (fVar 11) fNil)) (w := _) rfl (by omega) rfl 2 (fun x => [bk ans hs beg (.tuple ts), x]) fun y hy => ⟨rfl, rfl, (fine_stand (ef y hy) (by decide) (by decide)).2⟩
  exact ev_call (ea_cons ((xf_lc (wf_lst xf_var) gf_name (gw_name (by simp)) bf_yes (xf_call (af_cons xf_var (af_cons xf_var af_nil)))) [] _ _ j1) (ea_cons ((xf_lc (wf_lst xf_var) gf_name (gw_name (by simp)) bf_yes (xf_call (af_cons xf_var (af_cons xf_var af_nil)))) [] _ _ j2) ea_nil)) rfl (same_bools (by omega))
end
end K13
namespace K13
open PySem PySem.Spec PyProof.Rows L2 Ph
def spLaw (K : PySem.W.Frag) : Sp := fun vs H Q _ => ∃ (a : Addr) (ns : List Int), vs = [.ref a] ∧ SqL K H a (ns.map V.int) ∧ ns.length ≤ 63 ∧ ∀ H', Q (.bl true) H'
abbrev s_law : Stmt := top 40
abbrev N_law : List Str := ["script"]
theorem sc_law : FnScope N_law ["script"] (defScope s_law) := ⟨rfl, rfl, rfl, by decide +kernel, rfl, by decide +kernel, by decide +kernel⟩
theorem ok_law {P : Program} {w : World} {K : PySem.W.Frag} {mg : Str → Option Value} {base : Heap} {f : Addr} {fd : FuncData} (F : Fun K "law" "law" s_law f fd) (C0 : Cal P w K mg base "_law_by_hand_right" 10 [] (spD K 0 fun as d => F__law_by_hand_right as = some d)) (Cc : Cal P w K mg base "_law_cells" 1 ["script", "top"] (spCells K)) (Cb : Cal P w K mg base "_law_box" 1 ["script", "k"] spBox)
    (Cr : Cal P w K mg base "_law_right" 10 ["urn"] (spU K 0 3000 (fun as => as = []) R_right)) : FnOk P w K mg base CX0 11 f fd ["script"] (spLaw K) := by
  refine F.ok sc_law (fun vs H Q E h => ?_) (fun cdv A outer s H vs Q E hr h => ?_)
  · obtain ⟨a, ns, rfl, _⟩ := h
    rfl
  · obtain ⟨a, ns, rfl, hS, hlen, q⟩ := h
    refine ⟨_, (pss_one (ps_ret (pe_and (pe_cal0 C0 (hr.mono (by decide)) (by rfl)) (pe_one (pe_calU Cr (hr.mono (by decide)) (by rfl) (pa_cons (pe_calU Cb (hr.mono (by decide)) (by rfl) (pa_cons (pe_calU Cc (hr.mono (by decide)) (by rfl) (pa_cons (pv 0) (pa_cons pe_int pa_nil))) (pa_cons pe_int pa_nil))) pa_nil)))))), ?_⟩
    have E0' : En K (hide H []) (L2.start N_law [.ref a]) [none] := .no .nil
    unfold tRet tAndV
    refine (ev_call (n := 0) (R := fun as d => F__law_by_hand_right as = some d) (d := .bool true) ea_nil rfl by_hand) _ H E0' own0 _ fun v H1 e1 W1 x => ?_
    refine ⟨true, dd_bool x, iteT ?_⟩
    refine ⟨.ref a, rfl, a, ns, 1, rfl, Same.seq e1 hS, hlen, by decide, by decide, fun p H2 ms e2 np hp m1 m2 => ⟨p, ms, 0, rfl, hp, m1, by decide, fun u H3 e3 nu U => ⟨u, 0, [], [], rfl, U, by decide, .nil, rfl, rfl, fun v d H' r ex U' x => ?_⟩⟩⟩
    subst r
    cases dd_bool x
    exact q _
theorem cal_mk {P : Program} {w : World} {K : PySem.W.Frag} {mg : Str → Option Value} {base : Heap} {x : Str} {k : Nat} {ps : List Str} {sp : Sp} {f : Addr} {fd : FuncData} (g : mg x = some (.ref f)) (kp : PySem.W.keepIn K (.ref f) = true) (b : Binds K fd ps []) (F : FnOk P w K mg base CX0 k f fd ps sp) : Cal P w K mg base x k ps sp := ⟨f, fd, g, kp, b, F⟩
theorem fn_same {P : Program} {w : World} {K : PySem.W.Frag} {mg : Str → Option Value} {base : Heap} {k : Nat} {f : Addr} {fd : FuncData} (F : FnOk P w K mg base CX0 k f fd ["got", "goal"] (spD K 2 (R_same 6))) : FnOk P w K mg base CX0 k f fd ["got", "goal"] (spD K 2 fun as d => F__law_same as = some d) := F.imp fun vs H Q E h => by
  obtain ⟨as, d, t, hl, hr, q⟩ := h
  exact ⟨as, d, t, hl, same_F hr, q⟩
theorem all_mk {l : PySem.W.OpenLaw} {w : World} {K : PySem.W.Frag} {h : Heap} {mg : Str → Option Value} {fa : Addr} (X : K.In h) (G : h.Ns mainGlobals mg) (hfa : mg "law" = some (.ref fa))
    {f0 f1 f2 f3 f4 f5 f6 f7 f8 f9 f10 f11 f12 f13 f14 f15 f16 f17 f18 f19 f20 f21 f22 f23 f24 f25 f26 f27 f28 f29 f30 f31 f32 f33 f34 f35 f36 f37 : Addr} {od0 an0 od1 an1 od2 an2 od3 an3 od4 an4 od5 an5 od6 an6 od7 an7 od8 an8 od9 an9 od10 an10 od11 an11 od12 an12 od13 an13 od14 an14 od15 an15 od16 an16 od17 an17 od18 an18 od19 an19 od20 an20 od21 an21 od22 an22 od23 an23 od24 an24 od25 an25 od26 an26 od27 an27 od28 an28 od29 an29 od30 an30 od31 an31 od32 an32 od33 an33 od34 an34 od35 an35 od36 an36 od37 an37 : Option Addr} {sl0 sl1 sl2 sl3 sl4 sl5 sl6 sl7 sl8 sl9 sl10 sl11 sl12 sl13 sl14 sl15 sl16 sl17 sl18 sl19 sl20 sl21 sl22 sl23 sl24 sl25 sl26 sl27 sl28 sl29 sl30 sl31 sl32 sl33 sl34 sl35 sl36 sl37 : Array (Option Value)} {oc0 kV0 dc0 pm0 cd0 ct0 oc1 kV1 dc1 pm1 cd1 ct1 oc2 kV2 dc2 pm2 cd2 ct2 oc3 kV3 dc3 pm3 cd3 ct3 oc4 kV4 dc4 pm4 cd4 ct4 oc5 kV5 dc5 pm5 cd5 ct5 oc6 kV6 dc6 pm6 cd6 ct6 oc7 kV7 dc7 pm7 cd7 ct7 oc8 kV8 dc8 pm8 cd8 ct8 oc9 kV9 dc9 pm9 cd9 ct9 oc10 kV10 dc10 pm10 cd10 ct10 oc11 kV11 dc11 pm11 cd11 ct11 oc12 kV12 dc12 pm12 cd12 ct12 oc13 kV13 dc13 pm13 cd13 ct13 oc14 kV14 dc14 pm14 cd14 ct14 oc15 kV15 dc15 pm15 cd15 ct15 oc16 kV16 dc16 pm16 cd16 ct16 oc17 kV17 dc17 pm17 cd17 ct17 oc18 kV18 dc18 pm18 cd18 ct18 oc19 kV19 dc19 pm19 cd19 ct19 oc20 kV20 dc20 pm20 cd20 ct20 oc21 kV21 dc21 pm21 cd21 ct21 oc22 kV22 dc22 pm22 cd22 ct22 oc23 kV23 dc23 pm23 cd23 ct23 oc24 kV24 dc24 pm24 cd24 ct24 oc25 kV25 dc25 pm25 cd25 ct25 oc26 kV26 dc26 pm26 cd26 ct26 oc27 kV27 dc27 pm27 cd27 ct27 oc28 kV28 dc28 pm28 cd28 ct28 oc29 kV29 dc29 pm29 cd29 ct29 oc30 kV30 dc30 pm30 cd30 ct30 oc31 kV31 dc31 pm31 cd31 ct31 oc32 kV32 dc32 pm32 cd32 ct32 oc33 kV33 dc33 pm33 cd33 ct33 oc34 kV34 dc34 pm34 cd34 ct34 oc35 kV35 dc35 pm35 cd35 ct35 oc36 kV36 dc36 pm36 cd36 ct36 oc37 kV37 dc37 pm37 cd37 ct37 : Value}
    (a0 : PySem.W.nsIn K mainGlobals "is_number" = some (some (.ref f0)))
    (l0 : K.lookup f0 = some ⟨oc0, od0, .func (PySem.W.fnOf "is_number" "is_number" (defArgs s_is_number) (defBody s_is_number) (defScope s_is_number) .none kV0 dc0 pm0 an0 cd0 ct0), sl0⟩)
    (c0 : PySem.W.codeIn K cd0 "is_number" = true)
    (k0 : PySem.W.keepIn K (.ref f0) = true)
    (a1 : PySem.W.nsIn K mainGlobals "is_tuple_of" = some (some (.ref f1)))
    (l1 : K.lookup f1 = some ⟨oc1, od1, .func (PySem.W.fnOf "is_tuple_of" "is_tuple_of" (defArgs s_is_tuple_of) (defBody s_is_tuple_of) (defScope s_is_tuple_of) .none kV1 dc1 pm1 an1 cd1 ct1), sl1⟩)
    (c1 : PySem.W.codeIn K cd1 "is_tuple_of" = true)
    (k1 : PySem.W.keepIn K (.ref f1) = true)
    (a2 : PySem.W.nsIn K mainGlobals "has_numbers" = some (some (.ref f2)))
    (l2 : K.lookup f2 = some ⟨oc2, od2, .func (PySem.W.fnOf "has_numbers" "has_numbers" (defArgs s_has_numbers) (defBody s_has_numbers) (defScope s_has_numbers) .none kV2 dc2 pm2 an2 cd2 ct2), sl2⟩)
    (c2 : PySem.W.codeIn K cd2 "has_numbers" = true)
    (k2 : PySem.W.keepIn K (.ref f2) = true)
    (a3 : PySem.W.nsIn K mainGlobals "has_numbers_from" = some (some (.ref f3)))
    (l3 : K.lookup f3 = some ⟨oc3, od3, .func (PySem.W.fnOf "has_numbers_from" "has_numbers_from" (defArgs s_has_numbers_from) (defBody s_has_numbers_from) (defScope s_has_numbers_from) .none kV3 dc3 pm3 an3 cd3 ct3), sl3⟩)
    (c3 : PySem.W.codeIn K cd3 "has_numbers_from" = true)
    (k3 : PySem.W.keepIn K (.ref f3) = true)
    (a4 : PySem.W.nsIn K mainGlobals "has_numbers_between" = some (some (.ref f4)))
    (l4 : K.lookup f4 = some ⟨oc4, od4, .func (PySem.W.fnOf "has_numbers_between" "has_numbers_between" (defArgs s_has_numbers_between) (defBody s_has_numbers_between) (defScope s_has_numbers_between) .none kV4 dc4 pm4 an4 cd4 ct4), sl4⟩)
    (c4 : PySem.W.codeIn K cd4 "has_numbers_between" = true)
    (k4 : PySem.W.keepIn K (.ref f4) = true)
    (a5 : PySem.W.nsIn K mainGlobals "_is_flag" = some (some (.ref f5)))
    (l5 : K.lookup f5 = some ⟨oc5, od5, .func (PySem.W.fnOf "_is_flag" "_is_flag" (defArgs s__is_flag) (defBody s__is_flag) (defScope s__is_flag) .none kV5 dc5 pm5 an5 cd5 ct5), sl5⟩)
    (c5 : PySem.W.codeIn K cd5 "_is_flag" = true)
    (k5 : PySem.W.keepIn K (.ref f5) = true)
    (a6 : PySem.W.nsIn K mainGlobals "_is_hue_of" = some (some (.ref f6)))
    (l6 : K.lookup f6 = some ⟨oc6, od6, .func (PySem.W.fnOf "_is_hue_of" "_is_hue_of" (defArgs s__is_hue_of) (defBody s__is_hue_of) (defScope s__is_hue_of) .none kV6 dc6 pm6 an6 cd6 ct6), sl6⟩)
    (c6 : PySem.W.codeIn K cd6 "_is_hue_of" = true)
    (k6 : PySem.W.keepIn K (.ref f6) = true)
    (a7 : PySem.W.nsIn K mainGlobals "is_answers" = some (some (.ref f7)))
    (l7 : K.lookup f7 = some ⟨oc7, od7, .func (PySem.W.fnOf "is_answers" "is_answers" (defArgs s_is_answers) (defBody s_is_answers) (defScope s_is_answers) .none kV7 dc7 pm7 an7 cd7 ct7), sl7⟩)
    (c7 : PySem.W.codeIn K cd7 "is_answers" = true)
    (k7 : PySem.W.keepIn K (.ref f7) = true)
    (a8 : PySem.W.nsIn K mainGlobals "_is_hues" = some (some (.ref f8)))
    (l8 : K.lookup f8 = some ⟨oc8, od8, .func (PySem.W.fnOf "_is_hues" "_is_hues" (defArgs s__is_hues) (defBody s__is_hues) (defScope s__is_hues) .none kV8 dc8 pm8 an8 cd8 ct8), sl8⟩)
    (c8 : PySem.W.codeIn K cd8 "_is_hues" = true)
    (k8 : PySem.W.keepIn K (.ref f8) = true)
    (a9 : PySem.W.nsIn K mainGlobals "_is_begin" = some (some (.ref f9)))
    (l9 : K.lookup f9 = some ⟨oc9, od9, .func (PySem.W.fnOf "_is_begin" "_is_begin" (defArgs s__is_begin) (defBody s__is_begin) (defScope s__is_begin) .none kV9 dc9 pm9 an9 cd9 ct9), sl9⟩)
    (c9 : PySem.W.codeIn K cd9 "_is_begin" = true)
    (k9 : PySem.W.keepIn K (.ref f9) = true)
    (a10 : PySem.W.nsIn K mainGlobals "_is_map" = some (some (.ref f10)))
    (l10 : K.lookup f10 = some ⟨oc10, od10, .func (PySem.W.fnOf "_is_map" "_is_map" (defArgs s__is_map) (defBody s__is_map) (defScope s__is_map) .none kV10 dc10 pm10 an10 cd10 ct10), sl10⟩)
    (c10 : PySem.W.codeIn K cd10 "_is_map" = true)
    (k10 : PySem.W.keepIn K (.ref f10) = true)
    (a11 : PySem.W.nsIn K mainGlobals "_is_row" = some (some (.ref f11)))
    (l11 : K.lookup f11 = some ⟨oc11, od11, .func (PySem.W.fnOf "_is_row" "_is_row" (defArgs s__is_row) (defBody s__is_row) (defScope s__is_row) .none kV11 dc11 pm11 an11 cd11 ct11), sl11⟩)
    (c11 : PySem.W.codeIn K cd11 "_is_row" = true)
    (k11 : PySem.W.keepIn K (.ref f11) = true)
    (a12 : PySem.W.nsIn K mainGlobals "_is_line" = some (some (.ref f12)))
    (l12 : K.lookup f12 = some ⟨oc12, od12, .func (PySem.W.fnOf "_is_line" "_is_line" (defArgs s__is_line) (defBody s__is_line) (defScope s__is_line) .none kV12 dc12 pm12 an12 cd12 ct12), sl12⟩)
    (c12 : PySem.W.codeIn K cd12 "_is_line" = true)
    (k12 : PySem.W.keepIn K (.ref f12) = true)
    (a13 : PySem.W.nsIn K mainGlobals "_is_rows" = some (some (.ref f13)))
    (l13 : K.lookup f13 = some ⟨oc13, od13, .func (PySem.W.fnOf "_is_rows" "_is_rows" (defArgs s__is_rows) (defBody s__is_rows) (defScope s__is_rows) .none kV13 dc13 pm13 an13 cd13 ct13), sl13⟩)
    (c13 : PySem.W.codeIn K cd13 "_is_rows" = true)
    (k13 : PySem.W.keepIn K (.ref f13) = true)
    (a14 : PySem.W.nsIn K mainGlobals "is_book" = some (some (.ref f14)))
    (l14 : K.lookup f14 = some ⟨oc14, od14, .func (PySem.W.fnOf "is_book" "is_book" (defArgs s_is_book) (defBody s_is_book) (defScope s_is_book) .none kV14 dc14 pm14 an14 cd14 ct14), sl14⟩)
    (c14 : PySem.W.codeIn K cd14 "is_book" = true)
    (k14 : PySem.W.keepIn K (.ref f14) = true)
    (a15 : PySem.W.nsIn K mainGlobals "is_stand" = some (some (.ref f15)))
    (l15 : K.lookup f15 = some ⟨oc15, od15, .func (PySem.W.fnOf "is_stand" "is_stand" (defArgs s_is_stand) (defBody s_is_stand) (defScope s_is_stand) .none kV15 dc15 pm15 an15 cd15 ct15), sl15⟩)
    (c15 : PySem.W.codeIn K cd15 "is_stand" = true)
    (k15 : PySem.W.keepIn K (.ref f15) = true)
    (a16 : PySem.W.nsIn K mainGlobals "_law_is_number" = some (some (.ref f16)))
    (l16 : K.lookup f16 = some ⟨oc16, od16, .func (PySem.W.fnOf "_law_is_number" "_law_is_number" (defArgs s__law_is_number) (defBody s__law_is_number) (defScope s__law_is_number) .none kV16 dc16 pm16 an16 cd16 ct16), sl16⟩)
    (c16 : PySem.W.codeIn K cd16 "_law_is_number" = true)
    (k16 : PySem.W.keepIn K (.ref f16) = true)
    (a17 : PySem.W.nsIn K mainGlobals "_law_is_line" = some (some (.ref f17)))
    (l17 : K.lookup f17 = some ⟨oc17, od17, .func (PySem.W.fnOf "_law_is_line" "_law_is_line" (defArgs s__law_is_line) (defBody s__law_is_line) (defScope s__law_is_line) .none kV17 dc17 pm17 an17 cd17 ct17), sl17⟩)
    (c17 : PySem.W.codeIn K cd17 "_law_is_line" = true)
    (k17 : PySem.W.keepIn K (.ref f17) = true)
    (a18 : PySem.W.nsIn K mainGlobals "_law_is_map" = some (some (.ref f18)))
    (l18 : K.lookup f18 = some ⟨oc18, od18, .func (PySem.W.fnOf "_law_is_map" "_law_is_map" (defArgs s__law_is_map) (defBody s__law_is_map) (defScope s__law_is_map) .none kV18 dc18 pm18 an18 cd18 ct18), sl18⟩)
    (c18 : PySem.W.codeIn K cd18 "_law_is_map" = true)
    (k18 : PySem.W.keepIn K (.ref f18) = true)
    (a19 : PySem.W.nsIn K mainGlobals "_law_is_row" = some (some (.ref f19)))
    (l19 : K.lookup f19 = some ⟨oc19, od19, .func (PySem.W.fnOf "_law_is_row" "_law_is_row" (defArgs s__law_is_row) (defBody s__law_is_row) (defScope s__law_is_row) .none kV19 dc19 pm19 an19 cd19 ct19), sl19⟩)
    (c19 : PySem.W.codeIn K cd19 "_law_is_row" = true)
    (k19 : PySem.W.keepIn K (.ref f19) = true)
    (a20 : PySem.W.nsIn K mainGlobals "_law_rows_right" = some (some (.ref f20)))
    (l20 : K.lookup f20 = some ⟨oc20, od20, .func (PySem.W.fnOf "_law_rows_right" "_law_rows_right" (defArgs s__law_rows_right) (defBody s__law_rows_right) (defScope s__law_rows_right) .none kV20 dc20 pm20 an20 cd20 ct20), sl20⟩)
    (c20 : PySem.W.codeIn K cd20 "_law_rows_right" = true)
    (k20 : PySem.W.keepIn K (.ref f20) = true)
    (a21 : PySem.W.nsIn K mainGlobals "_law_is_book" = some (some (.ref f21)))
    (l21 : K.lookup f21 = some ⟨oc21, od21, .func (PySem.W.fnOf "_law_is_book" "_law_is_book" (defArgs s__law_is_book) (defBody s__law_is_book) (defScope s__law_is_book) .none kV21 dc21 pm21 an21 cd21 ct21), sl21⟩)
    (c21 : PySem.W.codeIn K cd21 "_law_is_book" = true)
    (k21 : PySem.W.keepIn K (.ref f21) = true)
    (a22 : PySem.W.nsIn K mainGlobals "_law_is_stand" = some (some (.ref f22)))
    (l22 : K.lookup f22 = some ⟨oc22, od22, .func (PySem.W.fnOf "_law_is_stand" "_law_is_stand" (defArgs s__law_is_stand) (defBody s__law_is_stand) (defScope s__law_is_stand) .none kV22 dc22 pm22 an22 cd22 ct22), sl22⟩)
    (c22 : PySem.W.codeIn K cd22 "_law_is_stand" = true)
    (k22 : PySem.W.keepIn K (.ref f22) = true)
    (a23 : PySem.W.nsIn K mainGlobals "_law_put" = some (some (.ref f23)))
    (l23 : K.lookup f23 = some ⟨oc23, od23, .func (PySem.W.fnOf "_law_put" "_law_put" (defArgs s__law_put) (defBody s__law_put) (defScope s__law_put) .none kV23 dc23 pm23 an23 cd23 ct23), sl23⟩)
    (c23 : PySem.W.codeIn K cd23 "_law_put" = true)
    (k23 : PySem.W.keepIn K (.ref f23) = true)
    (a24 : PySem.W.nsIn K mainGlobals "_law_lists" = some (some (.ref f24)))
    (l24 : K.lookup f24 = some ⟨oc24, od24, .func (PySem.W.fnOf "_law_lists" "_law_lists" (defArgs s__law_lists) (defBody s__law_lists) (defScope s__law_lists) .none kV24 dc24 pm24 an24 cd24 ct24), sl24⟩)
    (c24 : PySem.W.codeIn K cd24 "_law_lists" = true)
    (k24 : PySem.W.keepIn K (.ref f24) = true)
    (a25 : PySem.W.nsIn K mainGlobals "_law_shown" = some (some (.ref f25)))
    (l25 : K.lookup f25 = some ⟨oc25, od25, .func (PySem.W.fnOf "_law_shown" "_law_shown" (defArgs s__law_shown) (defBody s__law_shown) (defScope s__law_shown) .none kV25 dc25 pm25 an25 cd25 ct25), sl25⟩)
    (c25 : PySem.W.codeIn K cd25 "_law_shown" = true)
    (k25 : PySem.W.keepIn K (.ref f25) = true)
    (a26 : PySem.W.nsIn K mainGlobals "_law_by_hand_right" = some (some (.ref f26)))
    (l26 : K.lookup f26 = some ⟨oc26, od26, .func (PySem.W.fnOf "_law_by_hand_right" "_law_by_hand_right" (defArgs s__law_by_hand_right) (defBody s__law_by_hand_right) (defScope s__law_by_hand_right) .none kV26 dc26 pm26 an26 cd26 ct26), sl26⟩)
    (c26 : PySem.W.codeIn K cd26 "_law_by_hand_right" = true)
    (k26 : PySem.W.keepIn K (.ref f26) = true)
    (a27 : PySem.W.nsIn K mainGlobals "_law_box" = some (some (.ref f27)))
    (l27 : K.lookup f27 = some ⟨oc27, od27, .func (PySem.W.fnOf "_law_box" "_law_box" (defArgs K13p.s__law_box) (defBody K13p.s__law_box) (defScope K13p.s__law_box) .none kV27 dc27 pm27 an27 cd27 ct27), sl27⟩)
    (c27 : PySem.W.codeIn K cd27 "_law_box" = true)
    (k27 : PySem.W.keepIn K (.ref f27) = true)
    (a28 : PySem.W.nsIn K mainGlobals "_law_take" = some (some (.ref f28)))
    (l28 : K.lookup f28 = some ⟨oc28, od28, .func (PySem.W.fnOf "_law_take" "_law_take" (defArgs K13p.s__law_take) (defBody K13p.s__law_take) (defScope K13p.s__law_take) .none kV28 dc28 pm28 an28 cd28 ct28), sl28⟩)
    (c28 : PySem.W.codeIn K cd28 "_law_take" = true)
    (k28 : PySem.W.keepIn K (.ref f28) = true)
    (a29 : PySem.W.nsIn K mainGlobals "_law_cells" = some (some (.ref f29)))
    (l29 : K.lookup f29 = some ⟨oc29, od29, .func (PySem.W.fnOf "_law_cells" "_law_cells" (defArgs K13p.s__law_cells) (defBody K13p.s__law_cells) (defScope K13p.s__law_cells) .none kV29 dc29 pm29 an29 cd29 ct29), sl29⟩)
    (c29 : PySem.W.codeIn K cd29 "_law_cells" = true)
    (k29 : PySem.W.keepIn K (.ref f29) = true)
    (a30 : PySem.W.nsIn K mainGlobals "_law_same" = some (some (.ref f30)))
    (l30 : K.lookup f30 = some ⟨oc30, od30, .func (PySem.W.fnOf "_law_same" "_law_same" (defArgs K13p.s__law_same) (defBody K13p.s__law_same) (defScope K13p.s__law_same) .none kV30 dc30 pm30 an30 cd30 ct30), sl30⟩)
    (c30 : PySem.W.codeIn K cd30 "_law_same" = true)
    (k30 : PySem.W.keepIn K (.ref f30) = true)
    (a31 : PySem.W.nsIn K mainGlobals "_law_pick" = some (some (.ref f31)))
    (l31 : K.lookup f31 = some ⟨oc31, od31, .func (PySem.W.fnOf "_law_pick" "_law_pick" (defArgs s__law_pick) (defBody s__law_pick) (defScope s__law_pick) .none kV31 dc31 pm31 an31 cd31 ct31), sl31⟩)
    (c31 : PySem.W.codeIn K cd31 "_law_pick" = true)
    (k31 : PySem.W.keepIn K (.ref f31) = true)
    (a32 : PySem.W.nsIn K mainGlobals "_law_of" = some (some (.ref f32)))
    (l32 : K.lookup f32 = some ⟨oc32, od32, .func (PySem.W.fnOf "_law_of" "_law_of" (defArgs K13p.s__law_of) (defBody K13p.s__law_of) (defScope K13p.s__law_of) .none kV32 dc32 pm32 an32 cd32 ct32), sl32⟩)
    (c32 : PySem.W.codeIn K cd32 "_law_of" = true)
    (k32 : PySem.W.keepIn K (.ref f32) = true)
    (a33 : PySem.W.nsIn K mainGlobals "_law_own_map" = some (some (.ref f33)))
    (l33 : K.lookup f33 = some ⟨oc33, od33, .func (PySem.W.fnOf "_law_own_map" "_law_own_map" (defArgs s__law_own_map) (defBody s__law_own_map) (defScope s__law_own_map) .none kV33 dc33 pm33 an33 cd33 ct33), sl33⟩)
    (c33 : PySem.W.codeIn K cd33 "_law_own_map" = true)
    (k33 : PySem.W.keepIn K (.ref f33) = true)
    (a34 : PySem.W.nsIn K mainGlobals "_law_book" = some (some (.ref f34)))
    (l34 : K.lookup f34 = some ⟨oc34, od34, .func (PySem.W.fnOf "_law_book" "_law_book" (defArgs s__law_book) (defBody s__law_book) (defScope s__law_book) .none kV34 dc34 pm34 an34 cd34 ct34), sl34⟩)
    (c34 : PySem.W.codeIn K cd34 "_law_book" = true)
    (k34 : PySem.W.keepIn K (.ref f34) = true)
    (a35 : PySem.W.nsIn K mainGlobals "_law_bent" = some (some (.ref f35)))
    (l35 : K.lookup f35 = some ⟨oc35, od35, .func (PySem.W.fnOf "_law_bent" "_law_bent" (defArgs s__law_bent) (defBody s__law_bent) (defScope s__law_bent) .none kV35 dc35 pm35 an35 cd35 ct35), sl35⟩)
    (c35 : PySem.W.codeIn K cd35 "_law_bent" = true)
    (k35 : PySem.W.keepIn K (.ref f35) = true)
    (a36 : PySem.W.nsIn K mainGlobals "_law_right" = some (some (.ref f36)))
    (l36 : K.lookup f36 = some ⟨oc36, od36, .func (PySem.W.fnOf "_law_right" "_law_right" (defArgs s__law_right) (defBody s__law_right) (defScope s__law_right) .none kV36 dc36 pm36 an36 cd36 ct36), sl36⟩)
    (c36 : PySem.W.codeIn K cd36 "_law_right" = true)
    (k36 : PySem.W.keepIn K (.ref f36) = true)
    (a37 : PySem.W.nsIn K mainGlobals "law" = some (some (.ref f37)))
    (l37 : K.lookup f37 = some ⟨oc37, od37, .func (PySem.W.fnOf "law" "law" (defArgs s_law) (defBody s_law) (defScope s_law) .none kV37 dc37 pm37 an37 cd37 ct37), sl37⟩)
    (c37 : PySem.W.codeIn K cd37 "law" = true)
    (k37 : PySem.W.keepIn K (.ref f37) = true)
    (z_isinstance : PySem.W.nsIn K mainGlobals "isinstance" = some none)
    (z_len : PySem.W.nsIn K mainGlobals "len" = some none)
    (z_tuple : PySem.W.nsIn K mainGlobals "tuple" = some none)
    (z_list : PySem.W.nsIn K mainGlobals "list" = some none)
    (z_int : PySem.W.nsIn K mainGlobals "int" = some none)
    (z_bool : PySem.W.nsIn K mainGlobals "bool" = some none)
    (z_str : PySem.W.nsIn K mainGlobals "str" = some none)
    (z_all : PySem.W.nsIn K mainGlobals "all" = some none)
    (z_range : PySem.W.nsIn K mainGlobals "range" = some none)
    (z_enumerate : PySem.W.nsIn K mainGlobals "enumerate" = some none)
    (z_zip : PySem.W.nsIn K mainGlobals "zip" = some none)
    (z_max : PySem.W.nsIn K mainGlobals "max" = some none)
    (z_abs : PySem.W.nsIn K mainGlobals "abs" = some none)
    (z_set : PySem.W.nsIn K mainGlobals "set" = some none)
    (z_min : PySem.W.nsIn K mainGlobals "min" = some none) :
    ∃ fd : FuncData, (∀ (s : Shared) (v : Value), BindsTo s fd ⟨[v], []⟩ [("script", v)]) ∧ ∀ base : Heap, K.In base → base.Ns mainGlobals mg → FnOk l.prog w K mg base CX0 11 fa fd ["script"] (spLaw K) := by
  have e := hfa.symm.trans (PySem.W.mg_of X G a37)
  cases e
  have T : Blt mg := ⟨PySem.W.mg_none_of X G z_isinstance, PySem.W.mg_none_of X G z_len, PySem.W.mg_none_of X G z_tuple, PySem.W.mg_none_of X G z_list, PySem.W.mg_none_of X G z_int, PySem.W.mg_none_of X G z_bool, PySem.W.mg_none_of X G z_str, PySem.W.mg_none_of X G z_all, PySem.W.mg_none_of X G z_range, PySem.W.mg_none_of X G z_enumerate, PySem.W.mg_none_of X G z_zip, PySem.W.mg_none_of X G z_max, PySem.W.mg_none_of X G z_abs⟩
  have Z : Blt2 mg := ⟨PySem.W.mg_none_of X G z_set, PySem.W.mg_none_of X G z_min⟩
  have F0 := fun_mk (st := s_is_number) l0 c0 k0
  have b0 := F0.binds (ps := ["thing"]) fun _ _ _ _ _ _ us hl => match us, hl with | [_], _ => rfl
  have g0 := PySem.W.mg_of X G a0
  have F1 := fun_mk (st := s_is_tuple_of) l1 c1 k1
  have b1 := F1.binds (ps := ["thing", "many"]) fun _ _ _ _ _ _ us hl => match us, hl with | [_, _], _ => rfl
  have g1 := PySem.W.mg_of X G a1
  have F2 := fun_mk (st := s_has_numbers) l2 c2 k2
  have b2 := F2.binds (ps := ["thing"]) fun _ _ _ _ _ _ us hl => match us, hl with | [_], _ => rfl
  have g2 := PySem.W.mg_of X G a2
  have F3 := fun_mk (st := s_has_numbers_from) l3 c3 k3
  have b3 := F3.binds (ps := ["thing", "low"]) fun _ _ _ _ _ _ us hl => match us, hl with | [_, _], _ => rfl
  have g3 := PySem.W.mg_of X G a3
  have F4 := fun_mk (st := s_has_numbers_between) l4 c4 k4
  have b4 := F4.binds (ps := ["thing", "low", "high"]) fun _ _ _ _ _ _ us hl => match us, hl with | [_, _, _], _ => rfl
  have g4 := PySem.W.mg_of X G a4
  have F5 := fun_mk (st := s__is_flag) l5 c5 k5
  have b5 := F5.binds (ps := ["thing", "many"]) fun _ _ _ _ _ _ us hl => match us, hl with | [_, _], _ => rfl
  have g5 := PySem.W.mg_of X G a5
  have F6 := fun_mk (st := s__is_hue_of) l6 c6 k6
  have b6 := F6.binds (ps := ["thing", "hues", "letter"]) fun _ _ _ _ _ _ us hl => match us, hl with | [_, _, _], _ => rfl
  have g6 := PySem.W.mg_of X G a6
  have F7 := fun_mk (st := s_is_answers) l7 c7 k7
  have b7 := F7.binds (ps := ["thing"]) fun _ _ _ _ _ _ us hl => match us, hl with | [_], _ => rfl
  have g7 := PySem.W.mg_of X G a7
  have F8 := fun_mk (st := s__is_hues) l8 c8 k8
  have b8 := F8.binds (ps := ["thing"]) fun _ _ _ _ _ _ us hl => match us, hl with | [_], _ => rfl
  have g8 := PySem.W.mg_of X G a8
  have F9 := fun_mk (st := s__is_begin) l9 c9 k9
  have b9 := F9.binds (ps := ["thing", "many", "hues"]) fun _ _ _ _ _ _ us hl => match us, hl with | [_, _, _], _ => rfl
  have g9 := PySem.W.mg_of X G a9
  have F10 := fun_mk (st := s__is_map) l10 c10 k10
  have b10 := F10.binds (ps := ["thing", "hues"]) fun _ _ _ _ _ _ us hl => match us, hl with | [_, _], _ => rfl
  have g10 := PySem.W.mg_of X G a10
  have F11 := fun_mk (st := s__is_row) l11 c11 k11
  have b11 := F11.binds (ps := ["thing", "letter", "many", "hues"]) fun _ _ _ _ _ _ us hl => match us, hl with | [_, _, _, _], _ => rfl
  have g11 := PySem.W.mg_of X G a11
  have F12 := fun_mk (st := s__is_line) l12 c12 k12
  have b12 := F12.binds (ps := ["thing", "many", "hues"]) fun _ _ _ _ _ _ us hl => match us, hl with | [_, _, _], _ => rfl
  have g12 := PySem.W.mg_of X G a12
  have F13 := fun_mk (st := s__is_rows) l13 c13 k13
  have b13 := F13.binds (ps := ["thing", "many", "hues"]) fun _ _ _ _ _ _ us hl => match us, hl with | [_, _, _], _ => rfl
  have g13 := PySem.W.mg_of X G a13
  have F14 := fun_mk (st := s_is_book) l14 c14 k14
  have b14 := F14.binds (ps := ["thing"]) fun _ _ _ _ _ _ us hl => match us, hl with | [_], _ => rfl
  have g14 := PySem.W.mg_of X G a14
  have F15 := fun_mk (st := s_is_stand) l15 c15 k15
  have b15 := F15.binds (ps := ["book", "thing"]) fun _ _ _ _ _ _ us hl => match us, hl with | [_, _], _ => rfl
  have g15 := PySem.W.mg_of X G a15
  have F16 := fun_mk (st := s__law_is_number) l16 c16 k16
  have b16 := F16.binds (ps := ["thing", "below"]) fun _ _ _ _ _ _ us hl => match us, hl with | [_, _], _ => rfl
  have g16 := PySem.W.mg_of X G a16
  have F17 := fun_mk (st := s__law_is_line) l17 c17 k17
  have b17 := F17.binds (ps := ["thing", "many"]) fun _ _ _ _ _ _ us hl => match us, hl with | [_, _], _ => rfl
  have g17 := PySem.W.mg_of X G a17
  have F18 := fun_mk (st := s__law_is_map) l18 c18 k18
  have b18 := F18.binds (ps := ["hues", "thing"]) fun _ _ _ _ _ _ us hl => match us, hl with | [_, _], _ => rfl
  have g18 := PySem.W.mg_of X G a18
  have F19 := fun_mk (st := s__law_is_row) l19 c19 k19
  have b19 := F19.binds (ps := ["flags", "hues", "letter", "thing"]) fun _ _ _ _ _ _ us hl => match us, hl with | [_, _, _, _], _ => rfl
  have g19 := PySem.W.mg_of X G a19
  have F20 := fun_mk (st := s__law_rows_right) l20 c20 k20
  have b20 := F20.binds (ps := ["answers", "hues", "rows"]) fun _ _ _ _ _ _ us hl => match us, hl with | [_, _, _], _ => rfl
  have g20 := PySem.W.mg_of X G a20
  have F21 := fun_mk (st := s__law_is_book) l21 c21 k21
  have b21 := F21.binds (ps := ["thing"]) fun _ _ _ _ _ _ us hl => match us, hl with | [_], _ => rfl
  have g21 := PySem.W.mg_of X G a21
  have F22 := fun_mk (st := s__law_is_stand) l22 c22 k22
  have b22 := F22.binds (ps := ["book", "thing"]) fun _ _ _ _ _ _ us hl => match us, hl with | [_, _], _ => rfl
  have g22 := PySem.W.mg_of X G a22
  have F23 := fun_mk (st := s__law_put) l23 c23 k23
  have b23 := F23.binds (ps := ["row", "at", "thing"]) fun _ _ _ _ _ _ us hl => match us, hl with | [_, _, _], _ => rfl
  have g23 := PySem.W.mg_of X G a23
  have F24 := fun_mk (st := s__law_lists) l24 c24 k24
  have b24 := F24.binds (ps := ["matter"]) fun _ _ _ _ _ _ us hl => match us, hl with | [_], _ => rfl
  have g24 := PySem.W.mg_of X G a24
  have F25 := fun_mk (st := s__law_shown) l25 c25 k25
  have b25 := F25.binds (ps := []) fun _ _ _ _ _ _ us hl => match us, hl with | [], _ => rfl
  have g25 := PySem.W.mg_of X G a25
  have F26 := fun_mk (st := s__law_by_hand_right) l26 c26 k26
  have b26 := F26.binds (ps := []) fun _ _ _ _ _ _ us hl => match us, hl with | [], _ => rfl
  have g26 := PySem.W.mg_of X G a26
  have F27 := fun_mk (st := K13p.s__law_box) l27 c27 k27
  have b27 := F27.binds (ps := ["script", "k"]) fun _ _ _ _ _ _ us hl => match us, hl with | [_, _], _ => rfl
  have g27 := PySem.W.mg_of X G a27
  have F28 := fun_mk (st := K13p.s__law_take) l28 c28 k28
  have b28 := F28.binds (ps := ["urn", "low_so"]) fun _ _ _ _ _ _ us hl => match us, hl with | [_, _], _ => rfl
  have g28 := PySem.W.mg_of X G a28
  have F29 := fun_mk (st := K13p.s__law_cells) l29 c29 k29
  have b29 := F29.binds (ps := ["script", "top"]) fun _ _ _ _ _ _ us hl => match us, hl with | [_, _], _ => rfl
  have g29 := PySem.W.mg_of X G a29
  have F30 := fun_mk (st := K13p.s__law_same) l30 c30 k30
  have b30 := F30.binds (ps := ["got", "goal"]) fun _ _ _ _ _ _ us hl => match us, hl with | [_, _], _ => rfl
  have g30 := PySem.W.mg_of X G a30
  have F31 := fun_mk (st := s__law_pick) l31 c31 k31
  have b31 := F31.binds (ps := ["urn", "goods", "count"]) fun _ _ _ _ _ _ us hl => match us, hl with | [_, _, _], _ => rfl
  have g31 := PySem.W.mg_of X G a31
  have F32 := fun_mk (st := K13p.s__law_of) l32 c32 k32
  have b32 := F32.binds (ps := ["urn", "goods"]) fun _ _ _ _ _ _ us hl => match us, hl with | [_, _], _ => rfl
  have g32 := PySem.W.mg_of X G a32
  have F33 := fun_mk (st := s__law_own_map) l33 c33 k33
  have b33 := F33.binds (ps := ["urn", "hues"]) fun _ _ _ _ _ _ us hl => match us, hl with | [_, _], _ => rfl
  have g33 := PySem.W.mg_of X G a33
  have F34 := fun_mk (st := s__law_book) l34 c34 k34
  have b34 := F34.binds (ps := ["urn"]) fun _ _ _ _ _ _ us hl => match us, hl with | [_], _ => rfl
  have g34 := PySem.W.mg_of X G a34
  have F35 := fun_mk (st := s__law_bent) l35 c35 k35
  have b35 := F35.binds (ps := ["urn", "thing"]) fun _ _ _ _ _ _ us hl => match us, hl with | [_, _], _ => rfl
  have g35 := PySem.W.mg_of X G a35
  have F36 := fun_mk (st := s__law_right) l36 c36 k36
  have b36 := F36.binds (ps := ["urn"]) fun _ _ _ _ _ _ us hl => match us, hl with | [_], _ => rfl
  have g36 := PySem.W.mg_of X G a36
  have F37 := fun_mk (st := s_law) l37 c37 k37
  have b37 := F37.binds (ps := ["script"]) fun _ _ _ _ _ _ us hl => match us, hl with | [_], _ => rfl
  have g37 := PySem.W.mg_of X G a37
  refine ⟨PySem.W.fnOf "law" "law" (defArgs s_law) (defBody s_law) (defScope s_law) .none kV37 dc37 pm37 an37 cd37 ct37, fun s v => .of_eq rfl, fun base _ _ => ?_⟩
  have C_is_number := cal_mk g0 k0 b0 (ok_is_number (P := l.prog) (w := w) (base := base) F0 T Z )
  have C_is_tuple_of := cal_mk g1 k1 b1 (ok_is_tuple_of (P := l.prog) (w := w) (base := base) F1 T Z )
  have C_has_numbers := cal_mk g2 k2 b2 (ok_has_numbers (P := l.prog) (w := w) (base := base) F2 T Z C_is_number)
  have C_has_numbers_from := cal_mk g3 k3 b3 (ok_has_numbers_from (P := l.prog) (w := w) (base := base) F3 T Z C_has_numbers)
  have C_has_numbers_between := cal_mk g4 k4 b4 (ok_has_numbers_between (P := l.prog) (w := w) (base := base) F4 T Z C_has_numbers_from)
  have C__is_flag := cal_mk g5 k5 b5 (ok__is_flag (P := l.prog) (w := w) (base := base) F5 T Z C_is_number)
  have C__is_hue_of := cal_mk g6 k6 b6 (ok__is_hue_of (P := l.prog) (w := w) (base := base) F6 T Z C_is_number)
  have C_is_answers := cal_mk g7 k7 b7 (ok_is_answers (P := l.prog) (w := w) (base := base) F7 T Z )
  have C__is_hues := cal_mk g8 k8 b8 (ok__is_hues (P := l.prog) (w := w) (base := base) F8 T Z C_has_numbers_from)
  have C__is_begin := cal_mk g9 k9 b9 (ok__is_begin (P := l.prog) (w := w) (base := base) F9 T Z C_is_tuple_of C__is_flag C__is_hue_of)
  have C__is_map := cal_mk g10 k10 b10 (ok__is_map (P := l.prog) (w := w) (base := base) F10 T Z C_has_numbers_between)
  have C__is_row := cal_mk g11 k11 b11 (ok__is_row (P := l.prog) (w := w) (base := base) F11 T Z C_is_tuple_of C__is_flag C__is_hue_of C__is_map)
  have C__is_line := cal_mk g12 k12 b12 (ok__is_line (P := l.prog) (w := w) (base := base) F12 T Z C_is_tuple_of C__is_row)
  have C__is_rows := cal_mk g13 k13 b13 (ok__is_rows (P := l.prog) (w := w) (base := base) F13 T Z C_is_tuple_of C__is_line)
  have C_is_book := cal_mk g14 k14 b14 (ok_is_book (P := l.prog) (w := w) (base := base) F14 T Z C_is_tuple_of C_is_answers C__is_hues C__is_begin C__is_rows)
  have C_is_stand := cal_mk g15 k15 b15 (ok_is_stand (P := l.prog) (w := w) (base := base) F15 T Z C_is_tuple_of C__is_flag C_has_numbers_between)
  have C__law_is_number := cal_mk g16 k16 b16 (ok__law_is_number (P := l.prog) (w := w) (base := base) F16 T Z )
  have C__law_is_line := cal_mk g17 k17 b17 (ok__law_is_line (P := l.prog) (w := w) (base := base) F17 T Z )
  have C__law_is_map := cal_mk g18 k18 b18 (ok__law_is_map (P := l.prog) (w := w) (base := base) F18 T Z C__law_is_line C__law_is_number)
  have C__law_is_row := cal_mk g19 k19 b19 (ok__law_is_row (P := l.prog) (w := w) (base := base) F19 T Z C__law_is_line C__law_is_number C__law_is_map)
  have C__law_rows_right := cal_mk g20 k20 b20 (ok__law_rows_right (P := l.prog) (w := w) (base := base) F20 T Z C__law_is_line C__law_is_row)
  have C__law_is_book := cal_mk g21 k21 b21 (ok__law_is_book (P := l.prog) (w := w) (base := base) F21 T Z C__law_is_line C__law_is_number C__law_rows_right)
  have C__law_is_stand := cal_mk g22 k22 b22 (ok__law_is_stand (P := l.prog) (w := w) (base := base) F22 T Z C__law_is_line C__law_is_number)
  have C__law_put := cal_mk g23 k23 b23 (ok__law_put (P := l.prog) (w := w) (base := base) F23 T Z )
  have C__law_shown := cal_mk g25 k25 b25 (ok__law_shown (P := l.prog) (w := w) (base := base) F25 T Z )
  have C__law_same := cal_mk g30 k30 b30 (K13p.ok__law_same (P := l.prog) (w := w) (base := base) F30 T g30 k30 b30 6)
  have C_same0 := cal_mk g30 k30 b30 (fn_same (K13p.ok__law_same (P := l.prog) (w := w) (base := base) F30 T g30 k30 b30 6))
  have C__law_lists := cal_mk g24 k24 b24 (ok__law_lists (P := l.prog) (w := w) (base := base) F24 T Z g24 k24 b24 7)
  have C__law_take := cal_mk g28 k28 b28 (take_U (K13p.ok__law_take (P := l.prog) (w := w) (base := base) F28 T))
  have C__law_of := cal_mk g32 k32 b32 (K13p.ok__law_of (P := l.prog) (w := w) (base := base) F32 T C__law_take)
  have C__law_pick := cal_mk g31 k31 b31 (ok__law_pick (P := l.prog) (w := w) (base := base) F31 T Z C__law_take)
  have C__law_own_map := cal_mk g33 k33 b33 (ok__law_own_map (P := l.prog) (w := w) (base := base) F33 T Z C__law_of)
  have C__law_book := cal_mk g34 k34 b34 (ok__law_book (P := l.prog) (w := w) (base := base) F34 T Z C__law_take C__law_pick C__law_of C__law_own_map)
  have C__law_bent := cal_mk g35 k35 b35 (ok__law_bent (P := l.prog) (w := w) (base := base) F35 T Z g35 k35 b35 C__law_take C__law_of C__law_put 10 (by decide) (by decide) 7 (by decide))
  have C__law_cells := cal_mk g29 k29 b29 (K13p.ok__law_cells (P := l.prog) (w := w) (base := base) F29 T)
  have C__law_box := cal_mk g27 k27 b27 (K13p.ok__law_box (P := l.prog) (w := w) (base := base) F27 T)
  have C__law_by_hand_right := cal_mk g26 k26 b26 (ok__law_by_hand_right (P := l.prog) (w := w) (base := base) F26 T Z C__law_shown C__law_put C__law_is_book C_is_book C_is_stand C_same0)
  have C__law_right := cal_mk g36 k36 b36 (ok__law_right (P := l.prog) (w := w) (base := base) F36 T Z C__law_take C__law_book C__law_lists C__law_bent C__law_put C_is_book C__law_is_book C_is_stand C__law_is_stand C__law_same)
  exact ok_law F37 C__law_by_hand_right C__law_cells C__law_box C__law_right
end K13
open PySem PySem.W PyProof.Rows
set_option maxHeartbeats 0
theorem PySem.Challenge.cw_placehues_k13_whole_books_bent_holds : PySem.Challenge.rw_placehues_k13_whole_books_bent.Holds := by
  w_on; o_law; k_head; (case hw => w_witness2)
  k_fill
  refine L2.walk_of (l := PySem.Challenge.rw_placehues_k13_whole_books_bent) (n := 63) (k := 11) (x := "script") (CX := fun _ => L2.CX0) (sp := fun w => K13.spLaw _) rfl (by decide) rfl ⟨rfl, by decide, by decide⟩ (fun w h Y => PySem.W.kIn_of Y) ?F (fun _ _ a ns hl _ hS => ⟨a, ns, rfl, hS, hl, fun _ => rfl⟩) (fun _ _ _ _ _ h => h)
  case F =>
    intro w mg fa h KX G hmg
    refine' K13.all_mk KX G hmg ?a0 ?l0 ?c0 ?k0 ?a1 ?l1 ?c1 ?k1 ?a2 ?l2 ?c2 ?k2 ?a3 ?l3 ?c3 ?k3 ?a4 ?l4 ?c4 ?k4 ?a5 ?l5 ?c5 ?k5 ?a6 ?l6 ?c6 ?k6 ?a7 ?l7 ?c7 ?k7 ?a8 ?l8 ?c8 ?k8 ?a9 ?l9 ?c9 ?k9 ?a10 ?l10 ?c10 ?k10 ?a11 ?l11 ?c11 ?k11 ?a12 ?l12 ?c12 ?k12 ?a13 ?l13 ?c13 ?k13 ?a14 ?l14 ?c14 ?k14 ?a15 ?l15 ?c15 ?k15 ?a16 ?l16 ?c16 ?k16 ?a17 ?l17 ?c17 ?k17 ?a18 ?l18 ?c18 ?k18 ?a19 ?l19 ?c19 ?k19 ?a20 ?l20 ?c20 ?k20 ?a21 ?l21 ?c21 ?k21 ?a22 ?l22 ?c22 ?k22 ?a23 ?l23 ?c23 ?k23 ?a24 ?l24 ?c24 ?k24 ?a25 ?l25 ?c25 ?k25 ?a26 ?l26 ?c26 ?k26 ?a27 ?l27 ?c27 ?k27 ?a28 ?l28 ?c28 ?k28 ?a29 ?l29 ?c29 ?k29 ?a30 ?l30 ?c30 ?k30 ?a31 ?l31 ?c31 ?k31 ?a32 ?l32 ?c32 ?k32 ?a33 ?l33 ?c33 ?k33 ?a34 ?l34 ?c34 ?k34 ?a35 ?l35 ?c35 ?k35 ?a36 ?l36 ?c36 ?k36 ?a37 ?l37 ?c37 ?k37 ?z_isinstance ?z_len ?z_tuple ?z_list ?z_int ?z_bool ?z_str ?z_all ?z_range ?z_enumerate ?z_zip ?z_max ?z_abs ?z_set ?z_min
    (case a0 => k_is)
    (case l0 => k_is)
    (case c0 => k_is)
    (case k0 => k_is)
    (case a1 => k_is)
    (case l1 => k_is)
    (case c1 => k_is)
    (case k1 => k_is)
    (case a2 => k_is)
    (case l2 => k_is)
    (case c2 => k_is)
    (case k2 => k_is)
    (case a3 => k_is)
    (case l3 => k_is)
    (case c3 => k_is)
    (case k3 => k_is)
    (case a4 => k_is)
    (case l4 => k_is)
    (case c4 => k_is)
    (case k4 => k_is)
    (case a5 => k_is)
    (case l5 => k_is)
    (case c5 => k_is)
    (case k5 => k_is)
    (case a6 => k_is)
    (case l6 => k_is)
    (case c6 => k_is)
    (case k6 => k_is)
    (case a7 => k_is)
    (case l7 => k_is)
    (case c7 => k_is)
    (case k7 => k_is)
    (case a8 => k_is)
    (case l8 => k_is)
    (case c8 => k_is)
    (case k8 => k_is)
    (case a9 => k_is)
    (case l9 => k_is)
    (case c9 => k_is)
    (case k9 => k_is)
    (case a10 => k_is)
    (case l10 => k_is)
    (case c10 => k_is)
    (case k10 => k_is)
    (case a11 => k_is)
    (case l11 => k_is)
    (case c11 => k_is)
    (case k11 => k_is)
    (case a12 => k_is)
    (case l12 => k_is)
    (case c12 => k_is)
    (case k12 => k_is)
    (case a13 => k_is)
    (case l13 => k_is)
    (case c13 => k_is)
    (case k13 => k_is)
    (case a14 => k_is)
    (case l14 => k_is)
    (case c14 => k_is)
    (case k14 => k_is)
    (case a15 => k_is)
    (case l15 => k_is)
    (case c15 => k_is)
    (case k15 => k_is)
    (case a16 => k_is)
    (case l16 => k_is)
    (case c16 => k_is)
    (case k16 => k_is)
    (case a17 => k_is)
    (case l17 => k_is)
    (case c17 => k_is)
    (case k17 => k_is)
    (case a18 => k_is)
    (case l18 => k_is)
    (case c18 => k_is)
    (case k18 => k_is)
    (case a19 => k_is)
    (case l19 => k_is)
    (case c19 => k_is)
    (case k19 => k_is)
    (case a20 => k_is)
    (case l20 => k_is)
    (case c20 => k_is)
    (case k20 => k_is)
    (case a21 => k_is)
    (case l21 => k_is)
    (case c21 => k_is)
    (case k21 => k_is)
    (case a22 => k_is)
    (case l22 => k_is)
    (case c22 => k_is)
    (case k22 => k_is)
    (case a23 => k_is)
    (case l23 => k_is)
    (case c23 => k_is)
    (case k23 => k_is)
    (case a24 => k_is)
    (case l24 => k_is)
    (case c24 => k_is)
    (case k24 => k_is)
    (case a25 => k_is)
    (case l25 => k_is)
    (case c25 => k_is)
    (case k25 => k_is)
    (case a26 => k_is)
    (case l26 => k_is)
    (case c26 => k_is)
    (case k26 => k_is)
    (case a27 => k_is)
    (case l27 => k_is)
    (case c27 => k_is)
    (case k27 => k_is)
    (case a28 => k_is)
    (case l28 => k_is)
    (case c28 => k_is)
    (case k28 => k_is)
    (case a29 => k_is)
    (case l29 => k_is)
    (case c29 => k_is)
    (case k29 => k_is)
    (case a30 => k_is)
    (case l30 => k_is)
    (case c30 => k_is)
    (case k30 => k_is)
    (case a31 => k_is)
    (case l31 => k_is)
    (case c31 => k_is)
    (case k31 => k_is)
    (case a32 => k_is)
    (case l32 => k_is)
    (case c32 => k_is)
    (case k32 => k_is)
    (case a33 => k_is)
    (case l33 => k_is)
    (case c33 => k_is)
    (case k33 => k_is)
    (case a34 => k_is)
    (case l34 => k_is)
    (case c34 => k_is)
    (case k34 => k_is)
    (case a35 => k_is)
    (case l35 => k_is)
    (case c35 => k_is)
    (case k35 => k_is)
    (case a36 => k_is)
    (case l36 => k_is)
    (case c36 => k_is)
    (case k36 => k_is)
    (case a37 => k_is)
    (case l37 => k_is)
    (case c37 => k_is)
    (case k37 => k_is)
    (case z_isinstance => k_is)
    (case z_len => k_is)
    (case z_tuple => k_is)
    (case z_list => k_is)
    (case z_int => k_is)
    (case z_bool => k_is)
    (case z_str => k_is)
    (case z_all => k_is)
    (case z_range => k_is)
    (case z_enumerate => k_is)
    (case z_zip => k_is)
    (case z_max => k_is)
    (case z_abs => k_is)
    (case z_set => k_is)
    (case z_min => k_is)
end
