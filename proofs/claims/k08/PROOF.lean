import PyProof.Rows.All
import Wide.All
import OpenK.AllK
import Wide.FinOn
import HandS.ForMost
import HandS.WordsExc
import HandS.Deep
import HandS.TupAny
import HandS.IsInst
import HandS.SortInts
import HandS.Walk
import HandS.Zip
import HandS.TryOnly
import HandS.More
import HandS.FStr
import HandS.RaiseMore
import HandS.ExcIs
import HandS.ExcField
import HandS.TupSets
import HandS.SortRule
import KE.GoesEnum
import HandS.SetFor
import HandS.Strs
import HandS.Nested
import HandS.ClsMeth
import HandS.ExcInit
import KE.KExcSuper
import KE.KExcIs
import PySem.Challenge.RW_trendhouse_k08_runs_looked_through
set_option Elab.async false
set_option linter.all false
set_option maxRecDepth 100000
set_option maxHeartbeats 8000000
set_option autoImplicit false
/-! A layer of my own over the hand layer: a def's body read as a function of plain data (PyData) in Option, with one list that is handed on (the row) and local lists that grow (own). -/
namespace FL
open PySem L2
abbrev St := L2.St
abbrev Hp := L2.Hp

/-! ### heaps: what is hidden, what is kept -/
theorem sqT_mono {K : PySem.W.Frag} {H H' : Hp} {a : Addr} {xs : List V} (e : Same H H') (h : SqT K H a xs) : SqT K H' a xs := by
  rcases h with (h | ⟨o, h⟩) | h
  · exact .inl (.inl (e _ _ h))
  · exact .inl (.inr ⟨o, e _ _ h⟩)
  · exact .inr h
mutual
/-- v is the data d: lists are tracked ones -/
inductive DR (K : PySem.W.Frag) (H : Hp) : V → PyData → Prop
  | non : DR K H .non .none
  | bl (b : Bool) : DR K H (.bl b) (.bool b)
  | int (i : Int) : DR K H (.int i) (.int i)
  | str (x : Str) : DR K H (.str x) (.str x)
  | lst {a : Addr} {xs : List V} {ds : List PyData} : H a = some (.lst xs) → DRAll K H xs ds → DR K H (.ref a) (.list ds)
  | tup {a : Addr} {xs : List V} {ds : List PyData} : SqT K H a xs → DRAll K H xs ds → DR K H (.ref a) (.tuple ds)
inductive DRAll (K : PySem.W.Frag) (H : Hp) : List V → List PyData → Prop
  | nil : DRAll K H [] []
  | cons {v : V} {vs : List V} {d : PyData} {ds : List PyData} : DR K H v d → DRAll K H vs ds → DRAll K H (v :: vs) (d :: ds)
end
mutual
theorem dr_dp {K : PySem.W.Frag} {H : Hp} : ∀ (d : PyData) (v : V), DR K H v d → Dp K H v d
  | .none, _, h => by cases h; exact .non
  | .bool b, _, h => by cases h; exact .bl b
  | .int i, _, h => by cases h; exact .int i
  | .str x, _, h => by cases h; exact .str x
  | .list ds, _, h => by
    cases h with
    | lst a b => exact .lst (SqL.of a) (drAll_dp ds _ b)
  | .tuple ds, _, h => by
    cases h with
    | tup a b => exact .tup a (drAll_dp ds _ b)
  | .dict _, _, h => by cases h
theorem drAll_dp {K : PySem.W.Frag} {H : Hp} : ∀ (ds : List PyData) (vs : List V), DRAll K H vs ds → DpAll K H vs ds
  | [], _, h => by cases h; exact .nil
  | d :: ds, _, h => by
    cases h with
    | cons h1 h2 => exact .cons (dr_dp d _ h1) (drAll_dp ds _ h2)
end
mutual
theorem dr_mono {K : PySem.W.Frag} {H H' : Hp} (e : Same H H') : ∀ (d : PyData) (v : V), DR K H v d → DR K H' v d
  | .none, _, h => by cases h; exact .non
  | .bool b, _, h => by cases h; exact .bl b
  | .int i, _, h => by cases h; exact .int i
  | .str x, _, h => by cases h; exact .str x
  | .list ds, _, h => by
    cases h with
    | lst a b => exact .lst (e _ _ a) (drAll_mono e ds _ b)
  | .tuple ds, _, h => by
    cases h with
    | tup a b => exact .tup (sqT_mono e a) (drAll_mono e ds _ b)
  | .dict _, _, h => by cases h
theorem drAll_mono {K : PySem.W.Frag} {H H' : Hp} (e : Same H H') : ∀ (ds : List PyData) (vs : List V), DRAll K H vs ds → DRAll K H' vs ds
  | [], _, h => by cases h; exact .nil
  | d :: ds, _, h => by
    cases h with
    | cons h1 h2 => exact .cons (dr_mono e d _ h1) (drAll_mono e ds _ h2)
end
theorem DRAll.length {K : PySem.W.Frag} {H : Hp} : ∀ {ds : List PyData} {vs : List V}, DRAll K H vs ds → vs.length = ds.length
  | [], _, h => by cases h; rfl
  | d :: ds, _, h => by
    cases h with
    | cons h1 h2 => simp [DRAll.length h2]
theorem DRAll.get {K : PySem.W.Frag} {H : Hp} : ∀ {ds : List PyData} {vs : List V} {i : Nat} {d : PyData}, DRAll K H vs ds → ds[i]? = some d → ∃ v, vs[i]? = some v ∧ DR K H v d
  | [], _, i, d, h, e => by simp at e
  | d :: ds, _, 0, d', h, e => by
    cases h with
    | cons h1 h2 =>
      have e' : d = d' := by simpa using e
      subst e'
      exact ⟨_, rfl, h1⟩
  | d :: ds, _, i + 1, d', h, e => by
    cases h with
    | cons h1 h2 =>
      obtain ⟨v, e1, e2⟩ := DRAll.get (i := i) h2 (by simpa using e)
      exact ⟨v, by simpa using e1, e2⟩
theorem DRAll.append {K : PySem.W.Frag} {H : Hp} : ∀ {ds es : List PyData} {vs us : List V}, DRAll K H vs ds → DRAll K H us es → DRAll K H (vs ++ us) (ds ++ es)
  | [], _, _, _, h, g => by cases h; exact g
  | d :: ds, _, _, _, h, g => by
    cases h with
    | cons h1 h2 => exact .cons h1 (DRAll.append h2 g)
theorem DRAll.drop {K : PySem.W.Frag} {H : Hp} : ∀ (n : Nat) {ds : List PyData} {vs : List V}, DRAll K H vs ds → DRAll K H (vs.drop n) (ds.drop n)
  | 0, _, _, h => h
  | n + 1, [], _, h => by cases h; exact .nil
  | n + 1, d :: ds, _, h => by
    cases h with
    | cons h1 h2 => exact DRAll.drop n h2
theorem DRAll.take {K : PySem.W.Frag} {H : Hp} : ∀ (n : Nat) {ds : List PyData} {vs : List V}, DRAll K H vs ds → DRAll K H (vs.take n) (ds.take n)
  | 0, _, _, h => by simp; exact .nil
  | n + 1, [], _, h => by cases h; exact .nil
  | n + 1, d :: ds, _, h => by
    cases h with
    | cons h1 h2 => exact .cons h1 (DRAll.take n h2)
theorem DRAll.set {K : PySem.W.Frag} {H : Hp} : ∀ (n : Nat) {ds : List PyData} {vs : List V} {d : PyData} {v : V}, DRAll K H vs ds → DR K H v d → DRAll K H (vs.set n v) (ds.set n d)
  | _, [], _, _, _, h, _ => by cases h; exact .nil
  | 0, d :: ds, _, _, _, h, g => by
    cases h with
    | cons h1 h2 => exact .cons g h2
  | n + 1, d :: ds, _, _, _, h, g => by
    cases h with
    | cons h1 h2 => exact .cons h1 (DRAll.set n h2 g)
theorem DRAll.replicate {K : PySem.W.Frag} {H : Hp} {d : PyData} {v : V} (h : DR K H v d) : ∀ n, DRAll K H (List.replicate n v) (List.replicate n d)
  | 0 => .nil
  | n + 1 => .cons h (DRAll.replicate h n)
theorem DRAll.reverse {K : PySem.W.Frag} {H : Hp} : ∀ {ds : List PyData} {vs : List V}, DRAll K H vs ds → DRAll K H vs.reverse ds.reverse
  | [], _, h => by cases h; exact .nil
  | d :: ds, _, h => by
    cases h with
    | cons h1 h2 =>
      rw [List.reverse_cons, List.reverse_cons]
      exact DRAll.append (DRAll.reverse h2) (.cons h1 .nil)
theorem DRAll.ints {K : PySem.W.Frag} {H : Hp} : ∀ (ns : List Int), DRAll K H (ns.map V.int) (ns.map PyData.int)
  | [] => .nil
  | n :: ns => .cons (.int n) (DRAll.ints ns)
theorem DRAll.ints_inv {K : PySem.W.Frag} {H : Hp} : ∀ {ns : List Int} {vs : List V}, DRAll K H vs (ns.map PyData.int) → vs = ns.map V.int
  | [], _, h => by cases h; rfl
  | n :: ns, _, h => by
    cases h with
    | cons h1 h2 =>
      cases h1
      rw [DRAll.ints_inv h2]
      rfl
theorem DRAll.bls_inv {K : PySem.W.Frag} {H : Hp} : ∀ {ns : List Bool} {vs : List V}, DRAll K H vs (ns.map PyData.bool) → vs = ns.map V.bl
  | [], _, h => by cases h; rfl
  | n :: ns, _, h => by
    cases h with
    | cons h1 h2 =>
      cases h1
      rw [DRAll.bls_inv h2]
      rfl
theorem DRAll.strs_inv {K : PySem.W.Frag} {H : Hp} : ∀ {ns : List Str} {vs : List V}, DRAll K H vs (ns.map PyData.str) → vs = ns.map V.str
  | [], _, h => by cases h; rfl
  | n :: ns, _, h => by
    cases h with
    | cons h1 h2 =>
      cases h1
      rw [DRAll.strs_inv h2]
      rfl

open Classical in
/-- the heap without what is hidden -/
noncomputable def hdn (S : Addr → Prop) (H : Hp) : Hp := fun b => if S b then none else H b
theorem mk_some {S : Addr → Prop} {H : Hp} {b : Addr} {o : HO} : hdn S H b = some o ↔ ¬ S b ∧ H b = some o := by
  unfold hdn
  by_cases h : S b
  · simp [h]
  · simp [h]
theorem mk_le (S : Addr → Prop) (H : Hp) : Same (hdn S H) H := fun _ _ e => (mk_some.mp e).2
theorem mk_same {S S' : Addr → Prop} {H H' : Hp} (h : ∀ b o, ¬ S b → H b = some o → ¬ S' b ∧ H' b = some o) : Same (hdn S H) (hdn S' H') := fun b o e => by
  obtain ⟨e1, e2⟩ := mk_some.mp e
  exact mk_some.mpr (h b o e1 e2)
theorem mk_grow {S : Addr → Prop} {H H' : Hp} (h : Same H H') : Same (hdn S H) (hdn S H') := mk_same fun b o n e => ⟨n, h b o e⟩
theorem upd_same' {H : Hp} {p : Addr} {o : HO} (h : H p = none) : Same H (upd H p o) := fun b u e => by
  rw [upd_ne (ne_of_none e h)]
  exact e

/-! ### values, slots -/
/-- what is handed about: data, or a house -/
inductive Vl where
  | dat (d : PyData)
  | hse (ts ties : List PyData)
structure Pm where
  K : PySem.W.Frag
  /-- the script's numbers -/
  ns : List Int
  hs : Hp → Addr → List PyData → List PyData → Prop
  hmono : ∀ {H H' : Hp} {x : Addr} {ts ties : List PyData}, Same H H' → hs H x ts ties → hs H' x ts ties
def VR (P : Pm) (H : Hp) (v : V) : Vl → Prop
  | .dat d => DR P.K H v d
  | .hse t s => ∃ x, v = .ref x ∧ P.hs H x t s
inductive VRs (P : Pm) (H : Hp) : List V → List Vl → Prop
  | nil : VRs P H [] []
  | cons {v : V} {vs : List V} {d : Vl} {ds : List Vl} : VR P H v d → VRs P H vs ds → VRs P H (v :: vs) (d :: ds)
theorem VR.mono {P : Pm} {H H' : Hp} (e : Same H H') : ∀ {d : Vl} {v : V}, VR P H v d → VR P H' v d
  | .dat d, v, h => dr_mono e d v h
  | .hse t s, v, h => by
    obtain ⟨x, e1, e2⟩ := h
    exact ⟨x, e1, P.hmono e e2⟩
theorem VRs.mono {P : Pm} {H H' : Hp} (e : Same H H') {ds : List Vl} {vs : List V} (h : VRs P H vs ds) : VRs P H' vs ds := by
  induction h with
  | nil => exact .nil
  | cons h1 _ ih => exact .cons (VR.mono e h1) ih
theorem VRs.length {P : Pm} {H : Hp} {ds : List Vl} {vs : List V} (h : VRs P H vs ds) : vs.length = ds.length := by
  induction h with
  | nil => rfl
  | cons h1 _ ih => simp [ih]

inductive Sl where
  | no
  | vl (x : Vl)
  | own (ds : List PyData)
  | row
abbrev Ro := Int × Int
abbrev Mx (α : Type) := List Sl → Ro → Option (α × Ro)

def Own (σ : St) (ss : List Sl) (a : Addr) : Prop := ∃ (i : Nat) (ds : List PyData), ss[i]? = some (.own ds) ∧ σ[i]? = some (some (.ref a))
/-- what is hidden: the callers' (M), the row, the own lists -/
def Msk (M : Addr → Prop) (r : Option Addr) (σ : St) (ss : List Sl) : Addr → Prop := fun a => M a ∨ r = some a ∨ Own σ ss a

structure ER (P : Pm) (M : Addr → Prop) (r : Option Addr) (σ : St) (H : Hp) (ss : List Sl) (rw : Ro) : Prop where
  len : σ.length = ss.length
  sl : ∀ (i : Nat) (x : Vl), ss[i]? = some (.vl x) → ∃ v, σ[i]? = some (some v) ∧ VR P (hdn (Msk M r σ ss) H) v x
  ow : ∀ (i : Nat) (ds : List PyData), ss[i]? = some (.own ds) → ∃ a vs, σ[i]? = some (some (.ref a)) ∧ H a = some (.lst vs) ∧ DRAll P.K (hdn (Msk M r σ ss) H) vs ds ∧ ¬ M a ∧ r ≠ some a
  rs : ∀ (i : Nat), ss[i]? = some .row → ∃ a, r = some a ∧ σ[i]? = some (some (.ref a))
  rk : ∀ a, r = some a → ¬ M a ∧ ∃ sa, H a = some (.lst [.ref sa, .int rw.1, .int rw.2]) ∧ SqL P.K (hdn (Msk M r σ ss) H) sa (P.ns.map V.int)
  m0 : ∀ a, M a → H a ≠ none
  inj : ∀ (i j : Nat) (a : Addr) (ds es : List PyData), ss[i]? = some (.own ds) → ss[j]? = some (.own es) → σ[i]? = some (some (.ref a)) → σ[j]? = some (some (.ref a)) → i = j

def KeepR (r : Option Addr) (H H' : Hp) : Prop := ∀ b o, H b = some o → r ≠ some b → H' b = some o
theorem KeepR.refl (r : Option Addr) (H : Hp) : KeepR r H H := fun _ _ e _ => e
theorem KeepR.of {r : Option Addr} {H H' : Hp} (h : Same H H') : KeepR r H H' := fun b o e _ => h b o e
theorem KeepR.trans {r : Option Addr} {H H1 H2 : Hp} (a : KeepR r H H1) (b : KeepR r H1 H2) : KeepR r H H2 := fun c o e n => b c o (a c o e n) n

section
variable {P : Pm} {M : Addr → Prop} {r : Option Addr} {σ : St} {H H' : Hp} {ss : List Sl} {rw rw' : Ro}
theorem ER.alloc (I : ER P M r σ H ss rw) : ∀ a, Msk M r σ ss a → H a ≠ none := fun a h => by
  rcases h with h | h | ⟨i, ds, h1, h2⟩
  · exact I.m0 a h
  · obtain ⟨_, vs, e, _⟩ := I.rk a h
    rw [e]; simp
  · obtain ⟨b, vs, e1, e2, _⟩ := I.ow i ds h1
    have : a = b := by
      rw [h2] at e1
      simpa using e1
    subst this
    rw [e2]; simp
theorem KeepR.msk (k : KeepR r H H') : Same (hdn (Msk M r σ ss) H) (hdn (Msk M r σ ss) H') := mk_same fun b o n e => ⟨n, k b o e fun z => n (.inr (.inl z))⟩
/-- the heap grows, the row stays -/
theorem ER.grow (I : ER P M r σ H ss rw) (e : Same H H') : ER P M r σ H' ss rw where
  len := I.len
  sl := fun i x h => by
    obtain ⟨v, h1, h2⟩ := I.sl i x h
    exact ⟨v, h1, VR.mono (mk_grow e) h2⟩
  ow := fun i ds h => by
    obtain ⟨a, vs, h1, h2, h3, h4⟩ := I.ow i ds h
    exact ⟨a, vs, h1, e _ _ h2, drAll_mono (mk_grow e) _ _ h3, h4⟩
  rs := I.rs
  rk := fun a h => by
    obtain ⟨h1, vs, h2, h3⟩ := I.rk a h
    exact ⟨h1, vs, e _ _ h2, (mk_grow e).seq h3⟩
  m0 := fun a h => by
    have q := I.m0 a h
    cases z : H a with
    | none => exact absurd z q
    | some o => rw [e _ _ z]; simp
  inj := I.inj
theorem ER.unhide {p : Addr} (I : ER P (fun a => M a ∨ a = p) r σ H ss rw) : ER P M r σ H ss rw := by
  have sub : Same (hdn (Msk (fun a => M a ∨ a = p) r σ ss) H) (hdn (Msk M r σ ss) H) := fun b o h => by
    obtain ⟨n, h⟩ := mk_some.mp h
    refine mk_some.mpr ⟨fun z => n ?_, h⟩
    rcases z with z | z | z
    · exact .inl (.inl z)
    · exact .inr (.inl z)
    · exact .inr (.inr z)
  refine ⟨I.len, fun j y h => ?_, fun j ds h => ?_, I.rs, fun a h => ?_, fun a h => I.m0 a (.inl h), I.inj⟩
  · obtain ⟨u, h1, h2⟩ := I.sl j y h
    exact ⟨u, h1, VR.mono sub h2⟩
  · obtain ⟨a, us, h1, h2, h3, h4, h5⟩ := I.ow j ds h
    exact ⟨a, us, h1, h2, drAll_mono sub _ _ h3, fun z => h4 (.inl z), h5⟩
  · obtain ⟨h1, sa, h2, h3⟩ := I.rk a h
    exact ⟨fun z => h1 (.inl z), sa, h2, sub.seq h3⟩
/-- a new object at p is hidden -/
theorem ER.hideS (I : ER P M r σ H ss rw) (e : Same H H') {p : Addr} (hp : H p = none) (hp' : H' p ≠ none) : ER P (fun a => M a ∨ a = p) r σ H' ss rw := by
  have sub : Same (hdn (Msk M r σ ss) H) (hdn (Msk (fun a => M a ∨ a = p) r σ ss) H') := mk_same fun b u n h => by
    have nb : b ≠ p := ne_of_none h hp
    refine ⟨fun z => ?_, e b u h⟩
    rcases z with (z | z) | z | z
    · exact n (.inl z)
    · exact nb z
    · exact n (.inr (.inl z))
    · exact n (.inr (.inr z))
  refine ⟨I.len, fun j y h => ?_, fun j ds h => ?_, I.rs, fun a h => ?_, fun a h => ?_, I.inj⟩
  · obtain ⟨u, h1, h2⟩ := I.sl j y h
    exact ⟨u, h1, VR.mono sub h2⟩
  · obtain ⟨a, us, h1, h2, h3, h4, h5⟩ := I.ow j ds h
    exact ⟨a, us, h1, e _ _ h2, drAll_mono sub _ _ h3, fun z => z.elim h4 (ne_of_none h2 hp), h5⟩
  · obtain ⟨h1, sa, h2, h3⟩ := I.rk a h
    exact ⟨fun z => z.elim h1 (ne_of_none h2 hp), sa, e _ _ h2, sub.seq h3⟩
  · rcases h with h | h
    · exact (I.grow e).m0 a h
    · subst h
      exact hp'
end

/-! ### readings -/
/-- an expression: m tells its value and the row behind it -/
def tE (P : Pm) (m : Mx Vl) : TE := fun σ H Q => ∃ M r ss rw x rw', ER P M r σ H ss rw ∧ m ss rw = some (x, rw') ∧
  ∀ v H', KeepR r H H' → ER P M r σ H' ss rw' → VR P (hdn (Msk M r σ ss) H') v x → Q v H'
/-- a new list -/
def tL (P : Pm) (m : Mx (List PyData)) : TE := fun σ H Q => ∃ M r ss rw ds rw', ER P M r σ H ss rw ∧ m ss rw = some (ds, rw') ∧
  ∀ p vs H', KeepR r H H' → ER P (fun a => M a ∨ a = p) r σ H' ss rw' → H p = none → H' p = some (.lst vs) → DRAll P.K (hdn (Msk (fun a => M a ∨ a = p) r σ ss) H') vs ds → Q (.ref p) H'
def tT (P : Pm) (m : Mx Bool) : TT := fun σ H Q => ∃ M r ss rw b rw', ER P M r σ H ss rw ∧ m ss rw = some (b, rw') ∧ ∀ H', KeepR r H H' → ER P M r σ H' ss rw' → Q b H'
def tA (P : Pm) (m : Mx (List Vl)) : TA := fun σ H Q => ∃ M r ss rw xs rw', ER P M r σ H ss rw ∧ m ss rw = some (xs, rw') ∧
  ∀ vs H', KeepR r H H' → ER P M r σ H' ss rw' → VRs P (hdn (Msk M r σ ss) H') vs xs → Q vs H'
def tO (P : Pm) (m : Mx (Option Int)) : TO := fun σ H Q => ∃ M r ss rw x rw', ER P M r σ H ss rw ∧ m ss rw = some (x, rw') ∧ ∀ H', KeepR r H H' → ER P M r σ H' ss rw' → Q x H'

abbrev FE (X : Cx) (P : Pm) (e : Expr) (m : Mx Vl) : Prop := PE X e (tE P m)
abbrev FT (X : Cx) (P : Pm) (e : Expr) (m : Mx Bool) : Prop := PT X e (tT P m)
abbrev FA (X : Cx) (P : Pm) (es : List Expr) (m : Mx (List Vl)) : Prop := PA X es (tA P m)

theorem PE.imp {X : Cx} {e : Expr} {t t' : TE} (h : PE X e t) (i : ∀ σ H Q, t' σ H Q → t σ H Q) : PE X e t' := ⟨fun pins s σ H Q I q => h.run pins s σ H Q I (i σ H Q q)⟩
theorem PT.imp {X : Cx} {e : Expr} {t t' : TT} (h : PT X e t) (i : ∀ σ H Q, t' σ H Q → t σ H Q) : PT X e t' := ⟨fun pins s σ H Q I q => h.run pins s σ H Q I (i σ H Q q)⟩
theorem PW.imp {X : Cx} {e : Expr} {t t' : TT} (h : PW X e t) (i : ∀ σ H Q, t' σ H Q → t σ H Q) : PW X e t' := ⟨fun wh pins s σ H Q I q => h.run wh pins s σ H Q I (i σ H Q q)⟩
theorem PA.imp {X : Cx} {es : List Expr} {t t' : TA} (h : PA X es t) (i : ∀ σ H Q, t' σ H Q → t σ H Q) : PA X es t' := ⟨fun pos pins s σ H Q I q => h.run pos pins s σ H Q I (i σ H Q q)⟩
theorem PS.imp {X : Cx} {st : Stmt} {t t' : TS} (h : PS X st t) (i : ∀ D σ H, t' D σ H → t D σ H) : PS X st t' := ⟨fun pins s σ H D I q => h.run pins s σ H D I (i D σ H q)⟩
theorem PSs.imp {X : Cx} {st : List Stmt} {t t' : TS} (h : PSs X st t) (i : ∀ D σ H, t' D σ H → t D σ H) : PSs X st t' := ⟨fun pins s σ H D I q => h.run pins s σ H D I (i D σ H q)⟩
theorem PO.imp {X : Cx} {e : Option Expr} {t t' : TO} (h : PO X e t) (i : ∀ σ H Q, t' σ H Q → t σ H Q) : PO X e t' := ⟨fun pins s σ H Q I q => h.run pins s σ H Q I (i σ H Q q)⟩

/-! ### the data's words -/
def bnd {α β : Type} (m : Mx α) (f : α → Mx β) : Mx β := fun ss rw => match m ss rw with
  | none => none
  | some (a, rw1) => f a ss rw1
def pur {α : Type} (a : α) : Mx α := fun _ rw => some (a, rw)
def opt {α : Type} (o : Option α) : Mx α := fun _ rw => match o with
  | none => none
  | some a => some (a, rw)
theorem bnd_some {α β : Type} {m : Mx α} {f : α → Mx β} {ss : List Sl} {rw rw' : Ro} {b : β} (h : bnd m f ss rw = some (b, rw')) : ∃ a rw1, m ss rw = some (a, rw1) ∧ f a ss rw1 = some (b, rw') := by
  unfold bnd at h
  cases e : m ss rw with
  | none => rw [e] at h; cases h
  | some p =>
    obtain ⟨a, rw1⟩ := p
    rw [e] at h
    exact ⟨a, rw1, rfl, h⟩
theorem opt_some {α : Type} {o : Option α} {ss : List Sl} {rw rw' : Ro} {a : α} (h : opt o ss rw = some (a, rw')) : o = some a ∧ rw' = rw := by
  unfold opt at h
  cases o with
  | none => cases h
  | some b =>
    simp only [Option.some.injEq, Prod.mk.injEq] at h
    exact ⟨by rw [h.1], h.2.symm⟩
theorem pur_some {α : Type} {a b : α} {ss : List Sl} {rw rw' : Ro} (h : pur a ss rw = some (b, rw')) : a = b ∧ rw' = rw := by
  simp only [pur, Option.some.injEq, Prod.mk.injEq] at h
  exact ⟨h.1, h.2.symm⟩
def m1 (g : Vl → Option Vl) (fa : Mx Vl) : Mx Vl := bnd fa fun x => opt (g x)
def m2 (g : Vl → Vl → Option Vl) (fa fb : Mx Vl) : Mx Vl := bnd fa fun x => bnd fb fun y => opt (g x y)
def mVar (i : Nat) : Mx Vl := fun ss rw => match ss[i]? with
  | some (.vl x) => some (x, rw)
  | _ => none
def mC (d : PyData) : Mx Vl := pur (.dat d)
/-- a test by its value -/
def mTst (m : Mx Vl) : Mx Bool := bnd m fun x => opt (match x with
  | .dat (.bool b) => some b
  | _ => none)
def mBl (m : Mx Bool) : Mx Vl := bnd m fun b => pur (.dat (.bool b))
def mAnd (a b : Mx Bool) : Mx Bool := bnd a fun x => if x = true then b else pur false
def mOr (a b : Mx Bool) : Mx Bool := bnd a fun x => if x = true then pur true else b
def mNot (a : Mx Bool) : Mx Bool := bnd a fun x => pur (!x)
def mIf {α : Type} (c : Mx Bool) (a b : Mx α) : Mx α := bnd c fun x => if x = true then a else b
def mNil : Mx (List Vl) := pur []
def mCons (a : Mx Vl) (b : Mx (List Vl)) : Mx (List Vl) := bnd a fun x => bnd b fun xs => pur (x :: xs)

section
variable {X : Cx} {P : Pm} {e a b c : Expr} {es : List Expr} {fa fb fc m : Mx Vl} {pos : Pos}
/-! ### names, constants -/
theorem fe_var (i : Nat) {x : Str} {pos : Pos} (hN : X.N[i]? = some x := by rfl) (hv : Vis X.env.scope x := by first | exact Or.inl rfl | exact Or.inr (Or.inl rfl) | exact Or.inr (Or.inr rfl)) (hd : (x == ("__debug__" : Str)) = false := by decide)
    (hcd : (x == ("__classdict__" : Str)) = false := by decide) : FE X P (.Name x pos) (mVar i) := by
  refine PE.imp (pe_var hN hv hd hcd) fun σ H Q ⟨M, r, ss, rw, y, rw', I, em, q⟩ => ?_
  unfold mVar at em
  split at em
  next z hz =>
    simp only [Option.some.injEq, Prod.mk.injEq] at em
    obtain ⟨rfl, rfl⟩ := em
    obtain ⟨v, h1, h2⟩ := I.sl _ _ hz
    exact ⟨v, h1, q v H (KeepR.refl _ _) I h2⟩
  next => cases em
theorem fe_c {t : V} {d : PyData} (h : PE X e (tC t)) (hd : ∀ H, DR P.K H t d) : FE X P e (mC d) := by
  refine PE.imp h fun σ H Q ⟨M, r, ss, rw, y, rw', I, em, q⟩ => ?_
  obtain ⟨rfl, rfl⟩ := pur_some em
  exact q t H (KeepR.refl _ _) I (hd _)
theorem fe_int {i j pos} : FE X P (.Constant (.int i) j pos) (mC (.int i)) := fe_c pe_int fun _ => .int i
theorem fe_bl {i j pos} : FE X P (.Constant (.bool i) j pos) (mC (.bool i)) := fe_c pe_bl fun _ => .bl i
theorem fe_non {j pos} : FE X P (.Constant .none j pos) (mC .none) := fe_c pe_non fun _ => .non
theorem fe_str {i j pos} : FE X P (.Constant (.str i) j pos) (mC (.str i)) := fe_c pe_str fun _ => .str i
theorem fe_glob {x : Str} {v : V} {u : Value} {d : PyData} {pos : Pos} (hm : X.mg x = some u) (r : RelV v u) (hd : ∀ H, DR P.K H v d) (hg : Gl X x := by rfl) (hd' : (x == ("__debug__" : Str)) = false := by decide) : FE X P (.Name x pos) (mC d) := fe_c (pe_glob hg hm r hd') hd

/-! ### operators -/
/-- an operation on values tells g of the data -/
def ROk (P : Pm) (r : R2) (g : Vl → Vl → Option Vl) : Prop := ∀ (S : Addr → Prop) (H : Hp) (x y : V) (dx dy dz : Vl) (Q : VK), (∀ a, S a → H a ≠ none) → VR P (hdn S H) x dx → VR P (hdn S H) y dy → g dx dy = some dz →
  (∀ v H', Same H H' → VR P (hdn S H') v dz → Q v H') → r x y H Q
def UOk (P : Pm) (r : V → Hp → VK → Prop) (g : Vl → Option Vl) : Prop := ∀ (S : Addr → Prop) (H : Hp) (x : V) (dx dz : Vl) (Q : VK), (∀ a, S a → H a ≠ none) → VR P (hdn S H) x dx → g dx = some dz →
  (∀ v H', Same H H' → VR P (hdn S H') v dz → Q v H') → r x H Q
theorem tE_op {r : R2} {g : Vl → Vl → Option Vl} (hr : ROk P r g) : ∀ σ H Q, tE P (m2 g fa fb) σ H Q → tOp r (tE P fa) (tE P fb) σ H Q := by
  rintro σ H Q ⟨M, r0, ss, rw, z, rw', I, e, q⟩
  obtain ⟨x, rw1, e1, e⟩ := bnd_some e
  obtain ⟨y, rw2, e2, e⟩ := bnd_some e
  obtain ⟨e3, rfl⟩ := opt_some e
  refine ⟨M, r0, ss, rw, x, rw1, I, e1, fun v H1 k1 I1 hv => ⟨M, r0, ss, rw1, y, rw', I1, e2, fun u H2 k2 I2 hu => ?_⟩⟩
  refine hr (Msk M r0 σ ss) H2 v u x y z Q I2.alloc (VR.mono k2.msk hv) hu e3 fun w H3 s3 hw => ?_
  exact q w H3 ((k1.trans k2).trans (KeepR.of s3)) (I2.grow s3) hw
theorem fe_op {op : Operator} {r : R2} {g : Vl → Vl → Option Vl} (ho : OpR X (binaryOp op) r) (hr : ROk P r g) (ha : FE X P a fa) (hb : FE X P b fb) : FE X P (.BinOp a op b pos) (m2 g fa fb) :=
  PE.imp (pe_op ho ha hb) (tE_op hr)
theorem fe_cmp {op : CmpOp} {r : R2} {g : Vl → Vl → Option Vl} (ho : OpR X (compareOp op) r) (hr : ROk P r g) (ha : FE X P a fa) (hb : FE X P b fb) (hm : behindInMarks op b = false) : FE X P (.Compare a [op] [b] pos) (m2 g fa fb) :=
  PE.imp (pe_cmpR ho ha hb hm) (tE_op hr)
theorem tT_of (h : ∀ σ H Q, tE P m σ H Q → tE P fa σ H Q) : True := trivial
theorem tT_test {t : TE} (h : ∀ σ H Q, tE P m σ H Q → t σ H Q) : ∀ σ H Q, tT P (mTst m) σ H Q → tTest t σ H Q := by
  rintro σ H Q ⟨M, r0, ss, rw, z, rw', I, e, q⟩
  obtain ⟨x, rw1, e1, e⟩ := bnd_some e
  obtain ⟨e2, rfl⟩ := opt_some e
  refine h σ H _ ⟨M, r0, ss, rw, x, rw', I, e1, fun v H1 k1 I1 hv => ?_⟩
  split at e2
  next b =>
    cases e2
    have hv : DR P.K (hdn (Msk M r0 σ ss) H1) v (.bool z) := hv
    cases hv
    exact ⟨z, rfl, q H1 k1 I1⟩
  next => cases e2
theorem ft_cmp {op : CmpOp} {r : R2} {g : Vl → Vl → Option Vl} (ho : OpR X (compareOp op) r) (hr : ROk P r g) (ha : FE X P a fa) (hb : FE X P b fb) (hm : behindInMarks op b = false) : FT X P (.Compare a [op] [b] pos) (mTst (m2 g fa fb)) :=
  PT.imp (pt_cmpR ho ha hb hm) (tT_test (tE_op hr))
/-- a op b op' c -/
def mChain (g g' : Vl → Vl → Option Vl) (fa fb fc : Mx Vl) : Mx Vl := bnd fa fun x => bnd fb fun y => bnd (mTst (opt (g x y))) fun k => if k = true then bnd fc fun z => opt (g' y z) else pur (.dat (.bool false))
theorem tE_chain {r r' : R2} {g g' : Vl → Vl → Option Vl} (hr : ROk P r g) (hr' : ROk P r' g') : ∀ σ H Q, tE P (mChain g g' fa fb fc) σ H Q → tChain r r' (tE P fa) (tE P fb) (tE P fc) σ H Q := by
  rintro σ H Q ⟨M, r0, ss, rw, z, rw', I, e, q⟩
  obtain ⟨x, rw1, e1, e⟩ := bnd_some e
  obtain ⟨y, rw2, e2, e⟩ := bnd_some e
  obtain ⟨k, rw3, e3, e⟩ := bnd_some e
  obtain ⟨w, rw4, e4, e5⟩ := bnd_some e3
  obtain ⟨g4, rfl⟩ := opt_some e4
  obtain ⟨e5, rfl⟩ := opt_some e5
  refine ⟨M, r0, ss, rw, x, rw1, I, e1, fun v H1 k1 I1 hv => ⟨M, r0, ss, rw1, y, rw3, I1, e2, fun u H2 k2 I2 hu => ?_⟩⟩
  refine hr (Msk M r0 σ ss) H2 v u x y w _ I2.alloc (VR.mono k2.msk hv) hu g4 fun v3 H3 s3 hw => ?_
  split at e5
  next b =>
    cases e5
    have hw : DR P.K (hdn (Msk M r0 σ ss) H3) v3 (.bool k) := hw
    cases hw
    refine ⟨k, rfl, ?_⟩
    cases k with
    | false =>
      rw [if_neg Bool.false_ne_true]
      rw [if_neg Bool.false_ne_true] at e
      obtain ⟨rfl, rfl⟩ := pur_some e
      exact q _ H3 ((k1.trans k2).trans (KeepR.of s3)) (I2.grow s3) (DR.bl false)
    | true =>
      rw [if_pos rfl]
      rw [if_pos rfl] at e
      obtain ⟨z', rw5, e6, e⟩ := bnd_some e
      obtain ⟨e7, rfl⟩ := opt_some e
      refine ⟨M, r0, ss, _, z', _, I2.grow s3, e6, fun v4 H4 k4 I4 hv4 => ?_⟩
      refine hr' (Msk M r0 σ ss) H4 u v4 y z' z Q I4.alloc (VR.mono k4.msk (VR.mono (mk_grow s3) hu)) hv4 e7 fun v5 H5 s5 h5 => ?_
      exact q v5 H5 ((((k1.trans k2).trans (KeepR.of s3)).trans k4).trans (KeepR.of s5)) (I4.grow s5) h5
  next => cases e5
theorem fe_chain {op op' : CmpOp} {r r' : R2} {g g' : Vl → Vl → Option Vl} (ho : OpR X (compareOp op) r) (hr : ROk P r g) (ho' : OpR X (compareOp op') r') (hr' : ROk P r' g') (ha : FE X P a fa) (hb : FE X P b fb) (hc : FE X P c fc)
    (hm : lastMarks [op, op'] [b, c] = false := by with_unfolding_all rfl) : FE X P (.Compare a [op, op'] [b, c] pos) (mChain g g' fa fb fc) := PE.imp (pe_chain ho ho' ha hb hc hm) (tE_chain hr hr')
theorem ft_chain {op op' : CmpOp} {r r' : R2} {g g' : Vl → Vl → Option Vl} (ho : OpR X (compareOp op) r) (hr : ROk P r g) (ho' : OpR X (compareOp op') r') (hr' : ROk P r' g') (ha : FE X P a fa) (hb : FE X P b fb) (hc : FE X P c fc)
    (hm : lastMarks [op, op'] [b, c] = false := by with_unfolding_all rfl) : FT X P (.Compare a [op, op'] [b, c] pos) (mTst (mChain g g' fa fb fc)) := PT.imp (pt_chain ho ho' ha hb hc hm) (tT_test (tE_chain hr hr'))
theorem fe_un {op : UnaryOp} {r : V → Hp → VK → Prop} {g : Vl → Option Vl} (ho : UnR X (unaryOp op) r) (hr : UOk P r g) (ha : FE X P a fa) : FE X P (.UnaryOp op a pos) (m1 g fa) := by
  refine PE.imp (pe_un ho ha) ?_
  rintro σ H Q ⟨M, r0, ss, rw, z, rw', I, e, q⟩
  obtain ⟨x, rw1, e1, e⟩ := bnd_some e
  obtain ⟨e3, rfl⟩ := opt_some e
  refine ⟨M, r0, ss, rw, x, rw', I, e1, fun v H1 k1 I1 hv => ?_⟩
  exact hr (Msk M r0 σ ss) H1 v x z Q I1.alloc hv e3 fun w H3 s3 hw => q w H3 (k1.trans (KeepR.of s3)) (I1.grow s3) hw

/-! ### and, or, not, if -/
variable {ta tb tc : Mx Bool} {rest : List Expr}
theorem tT_val : ∀ σ H Q, tT P (mTst m) σ H Q → tB (tE P m) σ H Q := tT_test fun _ _ _ h => h
theorem ft_val (h : FE X P e m) (he : ∀ whole, isTrue e X.env whole = (do let v ← whole; standAt e.pos; holding [v] (truthy v)) := by intro _; rfl) : FT X P e (mTst m) := PT.imp (pt_val h he) tT_val
theorem tT_and : ∀ σ H Q, tT P (mAnd ta tb) σ H Q → tAnd (tT P ta) (tT P tb) σ H Q := by
  rintro σ H Q ⟨M, r0, ss, rw, z, rw', I, e, q⟩
  obtain ⟨x, rw1, e1, e⟩ := bnd_some e
  refine ⟨M, r0, ss, rw, x, rw1, I, e1, fun H1 k1 I1 => ?_⟩
  cases x with
  | false =>
    rw [if_neg Bool.false_ne_true] at e ⊢
    obtain ⟨rfl, rfl⟩ := pur_some e
    exact q H1 k1 I1
  | true =>
    rw [if_pos rfl] at e ⊢
    exact ⟨M, r0, ss, rw1, z, rw', I1, e, fun H2 k2 I2 => q H2 (k1.trans k2) I2⟩
theorem tT_or : ∀ σ H Q, tT P (mOr ta tb) σ H Q → tOr (tT P ta) (tT P tb) σ H Q := by
  rintro σ H Q ⟨M, r0, ss, rw, z, rw', I, e, q⟩
  obtain ⟨x, rw1, e1, e⟩ := bnd_some e
  refine ⟨M, r0, ss, rw, x, rw1, I, e1, fun H1 k1 I1 => ?_⟩
  cases x with
  | true =>
    rw [if_pos rfl] at e ⊢
    obtain ⟨rfl, rfl⟩ := pur_some e
    exact q H1 k1 I1
  | false =>
    rw [if_neg Bool.false_ne_true] at e ⊢
    exact ⟨M, r0, ss, rw1, z, rw', I1, e, fun H2 k2 I2 => q H2 (k1.trans k2) I2⟩
theorem fw_and1 (ha : FT X P a ta) : PW X (.BoolOp .And [a] pos) (tT P ta) := pw_and1 ha
theorem fw_or1 (ha : FT X P a ta) : PW X (.BoolOp .Or [a] pos) (tT P ta) := pw_or1 ha
theorem fw_and (ha : FT X P a ta) (hb : PW X (.BoolOp .And (b :: rest) pos) (tT P tb)) : PW X (.BoolOp .And (a :: b :: rest) pos) (tT P (mAnd ta tb)) := PW.imp (pw_and ha hb) tT_and
theorem fw_or (ha : FT X P a ta) (hb : PW X (.BoolOp .Or (b :: rest) pos) (tT P tb)) : PW X (.BoolOp .Or (a :: b :: rest) pos) (tT P (mOr ta tb)) := PW.imp (pw_or ha hb) tT_or
theorem ft_w (h : PW X e (tT P ta)) : FT X P e ta := h.pt
theorem ft_not (ha : FT X P a ta) : FT X P (.UnaryOp .Not a pos) (mNot ta) := by
  refine PT.imp (pt_not ha) ?_
  rintro σ H Q ⟨M, r0, ss, rw, z, rw', I, e, q⟩
  obtain ⟨x, rw1, e1, e⟩ := bnd_some e
  obtain ⟨rfl, rfl⟩ := pur_some e
  exact ⟨M, r0, ss, rw, x, rw', I, e1, fun H1 k1 I1 => q H1 k1 I1⟩
/-- values: a and b, a or b, not a (a, b bools) -/
def mAndV (fa fb : Mx Vl) : Mx Vl := bnd (mTst fa) fun x => if x = true then fb else pur (.dat (.bool false))
def mOrV (fa fb : Mx Vl) : Mx Vl := bnd (mTst fa) fun x => if x = true then pur (.dat (.bool true)) else fb
theorem tst_some {m : Mx Vl} {ss : List Sl} {rw rw' : Ro} {b : Bool} (h : mTst m ss rw = some (b, rw')) : m ss rw = some (.dat (.bool b), rw') := by
  obtain ⟨x, rw1, e1, e⟩ := bnd_some h
  obtain ⟨e2, rfl⟩ := opt_some e
  split at e2
  next z => cases e2; exact e1
  next => cases e2
theorem vr_bool {P : Pm} {H : Hp} {v : V} {b : Bool} (h : VR P H v (.dat (.bool b))) : v = .bl b := by
  have h : DR P.K H v (.bool b) := h
  cases h
  rfl
theorem fe_and (ha : FE X P a fa) (hb : FE X P (.BoolOp .And (b :: rest) pos) fb) : FE X P (.BoolOp .And (a :: b :: rest) pos) (mAndV fa fb) := by
  refine PE.imp (pe_and ha hb) ?_
  rintro σ H Q ⟨M, r0, ss, rw, z, rw', I, e, q⟩
  obtain ⟨x, rw1, e1, e⟩ := bnd_some e
  refine ⟨M, r0, ss, rw, _, rw1, I, tst_some e1, fun v H1 k1 I1 hv => ⟨x, vr_bool hv, ?_⟩⟩
  cases x with
  | false =>
    rw [if_neg Bool.false_ne_true] at e ⊢
    obtain ⟨rfl, rfl⟩ := pur_some e
    exact q _ H1 k1 I1 (DR.bl false)
  | true =>
    rw [if_pos rfl] at e ⊢
    exact ⟨M, r0, ss, rw1, z, rw', I1, e, fun v2 H2 k2 I2 h2 => q v2 H2 (k1.trans k2) I2 h2⟩
theorem fe_or (ha : FE X P a fa) (hb : FE X P (.BoolOp .Or (b :: rest) pos) fb) : FE X P (.BoolOp .Or (a :: b :: rest) pos) (mOrV fa fb) := by
  refine PE.imp (pe_or ha hb) ?_
  rintro σ H Q ⟨M, r0, ss, rw, z, rw', I, e, q⟩
  obtain ⟨x, rw1, e1, e⟩ := bnd_some e
  refine ⟨M, r0, ss, rw, _, rw1, I, tst_some e1, fun v H1 k1 I1 hv => ⟨x, vr_bool hv, ?_⟩⟩
  cases x with
  | true =>
    rw [if_pos rfl] at e ⊢
    obtain ⟨rfl, rfl⟩ := pur_some e
    exact q _ H1 k1 I1 (DR.bl true)
  | false =>
    rw [if_neg Bool.false_ne_true] at e ⊢
    exact ⟨M, r0, ss, rw1, z, rw', I1, e, fun v2 H2 k2 I2 h2 => q v2 H2 (k1.trans k2) I2 h2⟩
theorem fe_one {op} (h : FE X P a fa) : FE X P (.BoolOp op [a] pos) fa := pe_one h
def mNotV (fa : Mx Vl) : Mx Vl := bnd (mTst fa) fun x => pur (.dat (.bool (!x)))
theorem fe_not (ha : FE X P a fa) : FE X P (.UnaryOp .Not a pos) (mNotV fa) := by
  refine PE.imp (pe_not ha) ?_
  rintro σ H Q ⟨M, r0, ss, rw, z, rw', I, e, q⟩
  obtain ⟨x, rw1, e1, e⟩ := bnd_some e
  obtain ⟨rfl, rfl⟩ := pur_some e
  exact ⟨M, r0, ss, rw, _, rw', I, tst_some e1, fun v H1 k1 I1 hv => ⟨x, vr_bool hv, q _ H1 k1 I1 (DR.bl _)⟩⟩
theorem fe_if {c : Expr} (hc : FT X P c tc) (ha : FE X P a fa) (hb : FE X P b fb) : FE X P (.IfExp c a b pos) (mIf tc fa fb) := by
  refine PE.imp (pe_ifExp hc ha hb) ?_
  rintro σ H Q ⟨M, r0, ss, rw, z, rw', I, e, q⟩
  obtain ⟨x, rw1, e1, e⟩ := bnd_some e
  refine ⟨M, r0, ss, rw, x, rw1, I, e1, fun H1 k1 I1 => ?_⟩
  cases x with
  | true =>
    rw [if_pos rfl] at e ⊢
    exact ⟨M, r0, ss, rw1, z, rw', I1, e, fun v2 H2 k2 I2 h2 => q v2 H2 (k1.trans k2) I2 h2⟩
  | false =>
    rw [if_neg Bool.false_ne_true] at e ⊢
    exact ⟨M, r0, ss, rw1, z, rw', I1, e, fun v2 H2 k2 I2 h2 => q v2 H2 (k1.trans k2) I2 h2⟩

/-! ### argument lists, displays -/
variable {ma : Mx (List Vl)}
theorem fa_nil : FA X P [] mNil := by
  refine PA.imp pa_nil ?_
  rintro σ H Q ⟨M, r0, ss, rw, z, rw', I, e, q⟩
  obtain ⟨rfl, rfl⟩ := pur_some e
  exact q [] H (KeepR.refl _ _) I .nil
theorem fa_cons (ha : FE X P e fa) (hr : FA X P es ma) (hs : starEach (e :: es) X.env = (false, eval e X.env) :: starEach es X.env := by rfl) : FA X P (e :: es) (mCons fa ma) := by
  refine PA.imp (pa_cons ha hr hs) ?_
  rintro σ H Q ⟨M, r0, ss, rw, z, rw', I, e, q⟩
  obtain ⟨x, rw1, e1, e⟩ := bnd_some e
  obtain ⟨xs, rw2, e2, e⟩ := bnd_some e
  obtain ⟨rfl, rfl⟩ := pur_some e
  exact ⟨M, r0, ss, rw, x, rw1, I, e1, fun v H1 k1 I1 hv => ⟨M, r0, ss, rw1, xs, _, I1, e2, fun vs H2 k2 I2 hs => q _ H2 (k1.trans k2) I2 (.cons (VR.mono k2.msk hv) hs)⟩⟩
/-- all data -/
def dats : List Vl → Option (List PyData)
  | [] => some []
  | .dat d :: xs => match dats xs with
    | some ds => some (d :: ds)
    | none => none
  | .hse _ _ :: _ => none
theorem dats_all {H : Hp} : ∀ {xs : List Vl} {ds : List PyData} {vs : List V}, dats xs = some ds → VRs P H vs xs → DRAll P.K H vs ds
  | [], _, _, e, h => by
    cases h
    cases e
    exact .nil
  | .dat d :: xs, _, _, e, h => by
    cases h with
    | cons h1 h2 =>
      unfold dats at e
      split at e
      next ds' e' =>
        cases e
        exact .cons h1 (dats_all e' h2)
      next => cases e
  | .hse _ _ :: _, _, _, e, _ => by cases e
theorem sz_of {n : Nat} (h : n ≤ 100000) : n ≤ sizeLine := Nat.le_trans h (by decide)
theorem sz_lt {n : Nat} (h : n < 100000) : n < sizeLine := Nat.lt_of_lt_of_le h (by decide)
/-- a new object at p: its items seen where p is hidden, or not -/
theorem mk_new {S : Addr → Prop} {H : Hp} {p : Addr} {o : HO} (hp : H p = none) : Same (hdn S H) (hdn (fun a => S a ∨ a = p) (upd H p o)) := mk_same fun b u n e => by
  have nb : b ≠ p := ne_of_none e hp
  exact ⟨fun z => z.elim n nb, by rw [upd_ne nb]; exact e⟩
theorem mk_sub {S S' : Addr → Prop} {H : Hp} (h : ∀ a, S' a → S a) : Same (hdn S H) (hdn S' H) := mk_same fun b o n e => ⟨fun z => n (h b z), e⟩
theorem mk_at {S : Addr → Prop} {H : Hp} {p : Addr} {o : HO} (hn : ¬ S p) (h : H p = some o) : hdn S H p = some o := mk_some.mpr ⟨hn, h⟩
theorem not_S {S : Addr → Prop} {H : Hp} {p : Addr} (hS : ∀ a, S a → H a ≠ none) (hp : H p = none) : ¬ S p := fun z => hS p z hp
def mTup (ma : Mx (List Vl)) : Mx Vl := bnd ma fun xs => opt (match dats xs with
  | some ds => if ds.length ≤ 100000 then some (.dat (.tuple ds)) else none
  | none => none)
def mLst (ma : Mx (List Vl)) : Mx (List PyData) := bnd ma fun xs => opt (match dats xs with
  | some ds => if ds.length ≤ 100000 then some ds else none
  | none => none)
theorem fe_tup {x1} (h : FA X P es ma) : FE X P (.Tuple es x1 pos) (mTup ma) := by
  refine PE.imp (pe_tup h) ?_
  rintro σ H Q ⟨M, r0, ss, rw, z, rw', I, e, q⟩
  obtain ⟨xs, rw1, e1, e⟩ := bnd_some e
  obtain ⟨e2, rfl⟩ := opt_some e
  refine ⟨M, r0, ss, rw, xs, _, I, e1, fun vs H1 k1 I1 hv => ?_⟩
  split at e2
  next ds ed =>
    split at e2
    next hl =>
      cases e2
      have ha := dats_all ed hv
      refine ⟨by rw [DRAll.length ha]; exact sz_of hl, fun p hp => ?_⟩
      have s3 : Same H1 (upd H1 p (.tup vs)) := upd_same' hp
      refine q _ _ (k1.trans (KeepR.of s3)) (I1.grow s3) ?_
      exact DR.tup (SqT.of (mk_at (not_S I1.alloc hp) upd_same)) (drAll_mono (mk_grow s3) _ _ ha)
    next => cases e2
  next => cases e2
abbrev FL (X : Cx) (P : Pm) (e : Expr) (m : Mx (List PyData)) : Prop := PE X e (tL P m)
theorem fl_lst (h : FA X P es ma) : FL X P (.List es pos) (mLst ma) := by
  refine PE.imp (pe_lst h) ?_
  rintro σ H Q ⟨M, r0, ss, rw, z, rw', I, e, q⟩
  obtain ⟨xs, rw1, e1, e⟩ := bnd_some e
  obtain ⟨e2, rfl⟩ := opt_some e
  refine ⟨M, r0, ss, rw, xs, _, I, e1, fun vs H1 k1 I1 hv => ?_⟩
  split at e2
  next ds ed =>
    split at e2
    next hl =>
      cases e2
      have ha := dats_all ed hv
      refine ⟨by rw [DRAll.length ha]; exact sz_of hl, fun p hp => ?_⟩
      have s3 : Same H1 (upd H1 p (.lst vs)) := upd_same' hp
      have hp0 : H p = none := by
        cases z : H p with
        | none => rfl
        | some o =>
          by_cases hr : r0 = some p
          · obtain ⟨_, us, e, _⟩ := I1.rk p hr
            rw [hp] at e; cases e
          · rw [k1 p o z hr] at hp; cases hp
      have I2 := I1.hideS s3 hp (by rw [upd_same]; simp)
      refine q p vs _ (k1.trans (KeepR.of s3)) I2 hp0 upd_same (drAll_mono (mk_same fun b u n h => ?_) _ _ ha)
      have nb : b ≠ p := ne_of_none h hp
      refine ⟨fun z => ?_, s3 b u h⟩
      rcases z with (z | z) | z | z
      · exact n (.inl z)
      · exact nb z
      · exact n (.inr (.inl z))
      · exact n (.inr (.inr z))
    next => cases e2
  next => cases e2
/-- a new list as a value -/
def mList (m : Mx (List PyData)) : Mx Vl := bnd m fun ds => pur (.dat (.list ds))
theorem fe_list {m : Mx (List PyData)} (h : FL X P e m) : FE X P e (mList m) := by
  refine PE.imp h ?_
  rintro σ H Q ⟨M, r0, ss, rw, z, rw', I, e, q⟩
  obtain ⟨ds, rw1, e1, e⟩ := bnd_some e
  obtain ⟨rfl, rfl⟩ := pur_some e
  refine ⟨M, r0, ss, rw, ds, _, I, e1, fun p vs H1 k1 I1 hp h1 ha => q _ H1 k1 I1.unhide ?_⟩
  refine DR.lst (mk_at (not_S I.alloc hp) h1) (drAll_mono (mk_sub fun a z => ?_) _ _ ha)
  rcases z with z | z | z
  · exact .inl (.inl z)
  · exact .inr (.inl z)
  · exact .inr (.inr z)
end
end FL
/-! The operations on data. -/
namespace FL
open PySem L2

section
variable {P : Pm} {X : Cx}
theorem OpR.or {X : Cx} {f : Value → Value → Sem Value} {r r' : R2} (h : OpR X f r) (h' : OpR X f r') : OpR X f (fun x y H Q => r x y H Q ∨ r' x y H Q) := by
  intro pins s σ H x y v u Q I rx ry q
  rcases q with q | q
  · exact h pins s σ H x y v u Q I rx ry q
  · exact h' pins s σ H x y v u Q I rx ry q
theorem CallR.or {X : Cx} {f : Value} {r r' : List V → Hp → VK → Prop} (h : CallR X f r) (h' : CallR X f r') : CallR X f (fun x H Q => r x H Q ∨ r' x H Q) := by
  intro pins s σ H x v Q I rx q
  rcases q with q | q
  · exact h pins s σ H x v Q I rx q
  · exact h' pins s σ H x v Q I rx q
theorem SlR.or' {X : Cx} {r r' : V → Option Int → Option Int → Hp → VK → Prop} (h : SlR X r) (h' : SlR X r') : SlR X (fun x lo hi H Q => r x lo hi H Q ∨ r' x lo hi H Q) := L2.SlR.or h h'

/-- a value's first look: what the data says of it -/
theorem vr_int {H : Hp} {v : V} {i : Int} (h : VR P H v (.dat (.int i))) : v = .int i := by
  have h : DR P.K H v (.int i) := h
  cases h
  rfl
theorem vr_str {H : Hp} {v : V} {i : Str} (h : VR P H v (.dat (.str i))) : v = .str i := by
  have h : DR P.K H v (.str i) := h
  cases h
  rfl
theorem vr_lst {H : Hp} {v : V} {ds : List PyData} (h : VR P H v (.dat (.list ds))) : ∃ a vs, v = .ref a ∧ H a = some (.lst vs) ∧ DRAll P.K H vs ds := by
  have h : DR P.K H v (.list ds) := h
  cases h with
  | lst a b => exact ⟨_, _, rfl, a, b⟩
theorem vr_tup {H : Hp} {v : V} {ds : List PyData} (h : VR P H v (.dat (.tuple ds))) : ∃ a vs, v = .ref a ∧ SqT P.K H a vs ∧ DRAll P.K H vs ds := by
  have h : DR P.K H v (.tuple ds) := h
  cases h with
  | tup a b => exact ⟨_, _, rfl, a, b⟩
/-- a new tuple, a new list -/
theorem new_tup {S : Addr → Prop} {H : Hp} {vs : List V} {ds : List PyData} (hS : ∀ a, S a → H a ≠ none) (h : DRAll P.K (hdn S H) vs ds) {p : Addr} (hp : H p = none) :
    Same H (upd H p (.tup vs)) ∧ VR P (hdn S (upd H p (.tup vs))) (.ref p) (.dat (.tuple ds)) := by
  have s3 : Same H (upd H p (.tup vs)) := upd_same' hp
  exact ⟨s3, DR.tup (SqT.of (mk_at (not_S hS hp) upd_same)) (drAll_mono (mk_grow s3) _ _ h)⟩
theorem new_lst {S : Addr → Prop} {H : Hp} {vs : List V} {ds : List PyData} (hS : ∀ a, S a → H a ≠ none) (h : DRAll P.K (hdn S H) vs ds) {p : Addr} (hp : H p = none) :
    Same H (upd H p (.lst vs)) ∧ VR P (hdn S (upd H p (.lst vs))) (.ref p) (.dat (.list ds)) := by
  have s3 : Same H (upd H p (.lst vs)) := upd_same' hp
  exact ⟨s3, DR.lst (mk_at (not_S hS hp) upd_same) (drAll_mono (mk_grow s3) _ _ h)⟩

/-! ### + - * // % -/
def addD : Vl → Vl → Option Vl
  | .dat (.int i), .dat (.int j) => some (.dat (.int (i + j)))
  | .dat (.str a), .dat (.str b) => if a.length + b.length ≤ 100000 then some (.dat (.str (a ++ b))) else none
  | .dat (.tuple xs), .dat (.tuple ys) => if xs.length + ys.length ≤ 100000 then some (.dat (.tuple (xs ++ ys))) else none
  | .dat (.list xs), .dat (.list ys) => if xs.length + ys.length ≤ 100000 then some (.dat (.list (xs ++ ys))) else none
  | _, _ => none
def rAddD (K : PySem.W.Frag) : R2 := fun x y H Q => (rI0 fun i j => .int (i + j)) x y H Q ∨ (∃ i j, x = .str i ∧ y = .str j ∧ i.length + j.length ≤ sizeLine ∧ Q (.str (i ++ j)) H) ∨ rCatA K x y H Q ∨ rCat x y H Q
theorem op_addD : OpR X (binaryOp .Add) (rAddD X.K) := OpR.or op_add (OpR.or op_add_str (OpR.or op_catA op_cat))
theorem ok_add : ROk P (rAddD P.K) addD := by
  intro S H x y dx dy dz Q hS hx hy e q
  unfold addD at e
  split at e
  next i j =>
    cases e
    rw [vr_int hx, vr_int hy]
    exact .inl ⟨i, j, rfl, rfl, q _ H (Same.refl _) (DR.int _)⟩
  next a b =>
    split at e
    next hl =>
      cases e
      rw [vr_str hx, vr_str hy]
      exact .inr (.inl ⟨a, b, rfl, rfl, sz_of hl, q _ H (Same.refl _) (DR.str _)⟩)
    next => cases e
  next xs ys =>
    split at e
    next hl =>
      cases e
      obtain ⟨a, vs, rfl, h1, h2⟩ := vr_tup hx
      obtain ⟨b, us, rfl, g1, g2⟩ := vr_tup hy
      refine .inr (.inr (.inl ⟨a, b, vs, us, rfl, rfl, sqT_mono (mk_le S H) h1, sqT_mono (mk_le S H) g1, by rw [DRAll.length h2, DRAll.length g2]; exact sz_of hl, fun z => ?_, fun _ z => ?_, fun _ _ p hp => ?_⟩))
      · subst z
        have : xs = [] := by
          have := DRAll.length h2
          simpa using this.symm
        subst this
        exact q _ H (Same.refl _) hy
      · subst z
        have : ys = [] := by
          have := DRAll.length g2
          simpa using this.symm
        subst this
        rw [List.append_nil] at q
        exact q _ H (Same.refl _) hx
      · obtain ⟨s3, n⟩ := new_tup (P := P) hS (DRAll.append h2 g2) hp
        exact q _ _ s3 n
    next => cases e
  next xs ys =>
    split at e
    next hl =>
      cases e
      obtain ⟨a, vs, rfl, h1, h2⟩ := vr_lst hx
      obtain ⟨b, us, rfl, g1, g2⟩ := vr_lst hy
      refine .inr (.inr (.inr ⟨a, b, vs, us, rfl, rfl, mk_le S H _ _ h1, mk_le S H _ _ g1, by rw [DRAll.length h2, DRAll.length g2]; exact sz_of hl, fun p hp => ?_⟩))
      obtain ⟨s3, n⟩ := new_lst (P := P) hS (DRAll.append h2 g2) hp
      exact q _ _ s3 n
    next => cases e
  next => cases e
def i2 (g : Int → Int → Option PyData) : Vl → Vl → Option Vl
  | .dat (.int i), .dat (.int j) => match g i j with
    | some d => some (.dat d)
    | none => none
  | _, _ => none
theorem ok_i2 {C : Int → Int → Prop} {f : Int → Int → V} {g : Int → Int → Option PyData} (h : ∀ i j d, g i j = some d → C i j ∧ ∀ H, DR P.K H (f i j) d) : ROk P (rI C f) (i2 g) := by
  intro S H x y dx dy dz Q hS hx hy e q
  unfold i2 at e
  split at e
  next i j =>
    split at e
    next d ed =>
      cases e
      rw [vr_int hx, vr_int hy]
      obtain ⟨c, hd⟩ := h i j d ed
      exact ⟨i, j, rfl, rfl, c, q _ H (Same.refl _) (hd _)⟩
    next => cases e
  next => cases e
theorem ok_i20 {f : Int → Int → V} {g : Int → Int → Option PyData} (h : ∀ i j d, g i j = some d → ∀ H, DR P.K H (f i j) d) : ROk P (rI0 f) (i2 g) := by
  intro S H x y dx dy dz Q hS hx hy e q
  unfold i2 at e
  split at e
  next i j =>
    split at e
    next d ed =>
      cases e
      rw [vr_int hx, vr_int hy]
      exact ⟨i, j, rfl, rfl, q _ H (Same.refl _) (h i j d ed _)⟩
    next => cases e
  next => cases e
def subI (i j : Int) : Option PyData := some (.int (i - j))
def subD := i2 subI
theorem ok_sub : ROk P (rI0 fun i j => .int (i - j)) subD := ok_i20 fun i j d e H => by
  cases e
  exact .int _
def fdivI (i j : Int) : Option PyData := if 0 < j ∧ j < 1073741824 then some (.int (i / j)) else none
def fdivD := i2 fdivI
theorem ok_fdiv : ROk P (rI CDiv fun i j => .int (i / j)) fdivD := ok_i2 fun i j d e => by
  unfold fdivI at e
  split at e
  next h => cases e; exact ⟨h, fun _ => .int _⟩
  next => cases e
def modI (i j : Int) : Option PyData := if 0 < j then some (.int (i % j)) else none
def modD := i2 modI
theorem ok_mod : ROk P (rI (fun _ j => 0 < j) fun i j => .int (i % j)) modD := ok_i2 fun i j d e => by
  unfold modI at e
  split at e
  next h => cases e; exact ⟨h, fun _ => .int _⟩
  next => cases e
/-- int * int, one of them small; list * int -/
def mulD : Vl → Vl → Option Vl
  | .dat (.int i), .dat (.int j) => if i.natAbs < 2 ^ 64 ∨ j.natAbs < 2 ^ 64 then some (.dat (.int (i * j))) else none
  | .dat (.list xs), .dat (.int k) => if 0 ≤ k ∧ k ≤ 1000 ∧ xs.length ≤ 100 then some (.dat (.list (List.replicate k.toNat xs).flatten)) else none
  | _, _ => none
theorem flat_all {K : PySem.W.Frag} {H : Hp} {vs : List V} {ds : List PyData} (h : DRAll K H vs ds) : ∀ n, DRAll K H (List.replicate n vs).flatten (List.replicate n ds).flatten
  | 0 => .nil
  | n + 1 => by
    rw [List.replicate_succ, List.replicate_succ, List.flatten_cons, List.flatten_cons]
    exact DRAll.append h (flat_all h n)
def rMulD : R2 := fun x y H Q => (rI CMul fun i j => .int (i * j)) x y H Q ∨ rRep x y H Q
theorem op_mulD : OpR X (binaryOp .Mult) rMulD := OpR.or op_mul op_rep
theorem ok_mul : ROk P rMulD mulD := by
  intro S H x y dx dy dz Q hS hx hy e q
  unfold mulD at e
  split at e
  next i j =>
    split at e
    next h =>
      cases e
      rw [vr_int hx, vr_int hy]
      refine .inl ⟨i, j, rfl, rfl, ?_, q _ H (Same.refl _) (DR.int _)⟩
      rcases h with h | h
      · exact .inl (by omega)
      · exact .inr (by omega)
    next => cases e
  next xs k =>
    split at e
    next h =>
      cases e
      rw [vr_int hy]
      obtain ⟨a, vs, rfl, h1, h2⟩ := vr_lst hx
      obtain ⟨k0, k1, k2⟩ := h
      have hl := DRAll.length h2
      have hsz : vs.length * k.toNat ≤ 100 * 1000 := Nat.mul_le_mul (by omega) (by omega)
      refine .inr ⟨a, k, vs, rfl, rfl, mk_le S H _ _ h1, by omega, by omega, sz_of hsz, fun p hp => ?_⟩
      obtain ⟨s3, n⟩ := new_lst (P := P) hS (flat_all h2 k.toNat) hp
      exact q _ _ s3 n
    next => cases e
  next => cases e
def negD : Vl → Option Vl
  | .dat (.int i) => some (.dat (.int (-i)))
  | _ => none
theorem ok_neg : UOk P (rU fun i => .int (-i)) negD := by
  intro S H x dx dz Q hS hx e q
  unfold negD at e
  split at e
  next i =>
    cases e
    rw [vr_int hx]
    exact ⟨i, rfl, q _ H (Same.refl _) (DR.int _)⟩
  next => cases e

/-! ### comparisons -/
def ltI (i j : Int) : Option PyData := some (.bool (decide (i < j)))
def leI (i j : Int) : Option PyData := some (.bool (decide (i ≤ j)))
def gtI (i j : Int) : Option PyData := some (.bool (decide (j < i)))
def geI (i j : Int) : Option PyData := some (.bool (decide (j ≤ i)))
def ltD := i2 ltI
def leD := i2 leI
def gtD := i2 gtI
def geD := i2 geI
theorem ok_lt : ROk P (rI0 fun i j => .bl (decide (i < j))) ltD := ok_i20 fun i j d e H => by cases e; exact .bl _
theorem ok_le : ROk P (rI0 fun i j => .bl (decide (i ≤ j))) leD := ok_i20 fun i j d e H => by cases e; exact .bl _
theorem ok_gt : ROk P (rI0 fun i j => .bl (decide (j < i))) gtD := ok_i20 fun i j d e H => by cases e; exact .bl _
theorem ok_ge : ROk P (rI0 fun i j => .bl (decide (j ≤ i))) geD := ok_i20 fun i j d e H => by cases e; exact .bl _
/-- flat data as a value -/
def dV : PyData → Option V
  | .none => some .non
  | .bool b => some (.bl b)
  | .int i => some (.int i)
  | .str x => some (.str x)
  | _ => none
theorem dv_dr {K : PySem.W.Frag} {H : Hp} {d : PyData} {v w : V} (h : DR K H v d) (e : dV d = some w) : v = w := by
  cases h <;> first
    | (cases e; rfl)
    | cases e
/-- are they equal: flat ones by value, else whole -/
def eqO (d e : PyData) : Option Bool := match dV d, dV e with
  | some v, some w => if scal v w = true then some (decide (v = w)) else none
  | _, _ => if SeqAt.shaped d = true ∧ SeqAt.shaped e = true then some (PyData.eqv d e) else none
def eqD : Vl → Vl → Option Vl
  | .dat d, .dat e => match eqO d e with
    | some b => some (.dat (.bool b))
    | none => none
  | _, _ => none
def neD : Vl → Vl → Option Vl
  | .dat d, .dat e => match eqO d e with
    | some b => some (.dat (.bool (!b)))
    | none => none
  | _, _ => none
def rEqDD (K : PySem.W.Frag) : R2 := fun x y H Q => rEq x y H Q ∨ rEqD K x y H Q
def rNeDD (K : PySem.W.Frag) : R2 := fun x y H Q => rNe x y H Q ∨ rNeD K x y H Q
theorem op_eqDD (hu : X.A.units + 64 < cLine) : OpR X (compareOp .Eq) (rEqDD X.K) := OpR.or op_eq (op_eqD hu)
theorem op_neDD (hu : X.A.units + 64 < cLine) : OpR X (compareOp .NotEq) (rNeDD X.K) := OpR.or op_ne (op_neD hu)
theorem eqO_cases {d e : PyData} {b : Bool} (h : eqO d e = some b) : (∃ v w, dV d = some v ∧ dV e = some w ∧ scal v w = true ∧ b = decide (v = w)) ∨ (SeqAt.shaped d = true ∧ SeqAt.shaped e = true ∧ b = PyData.eqv d e) := by
  unfold eqO at h
  split at h
  next v w h1 h2 =>
    split at h
    next hs => cases h; exact .inl ⟨v, w, h1, h2, hs, rfl⟩
    next => cases h
  next =>
    split at h
    next hs => cases h; exact .inr ⟨hs.1, hs.2, rfl⟩
    next => cases h
theorem ok_eq : ROk P (rEqDD P.K) eqD := by
  intro S H x y dx dy dz Q hS hx hy e q
  unfold eqD at e
  split at e
  next d d' =>
    split at e
    next b eb =>
      cases e
      have hx : DR P.K (hdn S H) x d := hx
      have hy : DR P.K (hdn S H) y d' := hy
      rcases eqO_cases eb with ⟨v, w, h1, h2, h3, rfl⟩ | ⟨h1, h2, rfl⟩
      · rw [dv_dr hx h1, dv_dr hy h2]
        exact .inl ⟨h3, q _ H (Same.refl _) (DR.bl _)⟩
      · exact .inr ⟨d, d', dr_dp _ _ (dr_mono (mk_le S H) _ _ hx), dr_dp _ _ (dr_mono (mk_le S H) _ _ hy), h1, h2, q _ H (Same.refl _) (DR.bl _)⟩
    next => cases e
  next => cases e
theorem ok_ne : ROk P (rNeDD P.K) neD := by
  intro S H x y dx dy dz Q hS hx hy e q
  unfold neD at e
  split at e
  next d d' =>
    split at e
    next b eb =>
      cases e
      have hx : DR P.K (hdn S H) x d := hx
      have hy : DR P.K (hdn S H) y d' := hy
      rcases eqO_cases eb with ⟨v, w, h1, h2, h3, rfl⟩ | ⟨h1, h2, rfl⟩
      · rw [dv_dr hx h1, dv_dr hy h2]
        exact .inl ⟨h3, q _ H (Same.refl _) (DR.bl _)⟩
      · exact .inr ⟨d, d', dr_dp _ _ (dr_mono (mk_le S H) _ _ hx), dr_dp _ _ (dr_mono (mk_le S H) _ _ hy), h1, h2, q _ H (Same.refl _) (DR.bl _)⟩
    next => cases e
  next => cases e
/-- is it None -/
def isND : Vl → Vl → Option Vl
  | .dat d, .dat .none => some (.dat (.bool (match d with
    | .none => true
    | _ => false)))
  | .hse _ _, .dat .none => some (.dat (.bool false))
  | _, _ => none
def notND : Vl → Vl → Option Vl
  | .dat d, .dat .none => some (.dat (.bool (match d with
    | .none => false
    | _ => true)))
  | .hse _ _, .dat .none => some (.dat (.bool true))
  | _, _ => none
theorem ok_isN : ROk P (fun x y H Q => y = .non ∧ Q (.bl (decide (x = .non))) H) isND := by
  intro S H x y dx dy dz Q hS hx hy e q
  unfold isND at e
  split at e
  next d =>
    cases e
    have hy : DR P.K (hdn S H) y .none := hy
    have hx : DR P.K (hdn S H) x d := hx
    cases hy
    refine ⟨rfl, ?_⟩
    cases hx <;> exact q _ H (Same.refl _) (DR.bl _)
  next t s =>
    cases e
    have hy : DR P.K (hdn S H) y .none := hy
    obtain ⟨a, rfl, _⟩ := hx
    cases hy
    exact ⟨rfl, q _ H (Same.refl _) (DR.bl _)⟩
  next => cases e
theorem ok_notN : ROk P (fun x y H Q => y = .non ∧ Q (.bl (!decide (x = .non))) H) notND := by
  intro S H x y dx dy dz Q hS hx hy e q
  unfold notND at e
  split at e
  next d =>
    cases e
    have hy : DR P.K (hdn S H) y .none := hy
    have hx : DR P.K (hdn S H) x d := hx
    cases hy
    refine ⟨rfl, ?_⟩
    cases hx <;> exact q _ H (Same.refl _) (DR.bl _)
  next t s =>
    cases e
    have hy : DR P.K (hdn S H) y .none := hy
    obtain ⟨a, rfl, _⟩ := hx
    cases hy
    exact ⟨rfl, q _ H (Same.refl _) (DR.bl _)⟩
  next => cases e

/-! ### in, not in -/
def dVs : List PyData → Option (List V)
  | [] => some []
  | d :: ds => match dV d, dVs ds with
    | some v, some vs => some (v :: vs)
    | _, _ => none
theorem dvs_dr {K : PySem.W.Frag} {H : Hp} : ∀ {ds : List PyData} {vs ws : List V}, DRAll K H vs ds → dVs ds = some ws → vs = ws ∧ ws.all flatV = true
  | [], _, _, h, e => by
    cases h
    cases e
    exact ⟨rfl, rfl⟩
  | d :: ds, _, _, h, e => by
    cases h with
    | cons h1 h2 =>
      unfold dVs at e
      split at e
      next v vs e1 e2 =>
        cases e
        obtain ⟨q1, q2⟩ := dvs_dr h2 e2
        subst q1
        have := dv_dr h1 e1
        subst this
        refine ⟨rfl, ?_⟩
        rw [List.all_cons, q2, Bool.and_true]
        cases h1 <;> first
          | rfl
          | cases e1
      next => cases e
theorem flat_dv {K : PySem.W.Frag} {H : Hp} {d : PyData} {v w : V} (h : DR K H v d) (e : dV d = some w) : flatV w = true := by
  cases h <;> first
    | (cases e; rfl)
    | cases e
/-- is d in e: a sign in a text; in a flat tuple or list; in a list of any -/
def inO (d e : PyData) : Option Bool := match e with
  | .str z => match d with
    | .str x => if x.cps.size = 1 then some (decide (x.cps.getD 0 0 ∈ z.cps.toList)) else none
    | _ => none
  | .tuple ds => match dV d, dVs ds with
    | some v, some vs => some (inV v vs)
    | _, _ => if SeqAt.shaped d = true ∧ SeqAt.shaped (.tuple ds) = true then some (ds.any fun z => PyData.eqv z d) else none
  | .list ds => match dV d, dVs ds with
    | some v, some vs => some (inV v vs)
    | _, _ => if SeqAt.shaped d = true ∧ SeqAt.shaped (.list ds) = true then some (ds.any fun z => PyData.eqv z d) else none
  | _ => none
def inD : Vl → Vl → Option Vl
  | .dat d, .dat e => match inO d e with
    | some b => some (.dat (.bool b))
    | none => none
  | _, _ => none
def ninD : Vl → Vl → Option Vl
  | .dat d, .dat e => match inO d e with
    | some b => some (.dat (.bool (!b)))
    | none => none
  | _, _ => none
/-- in, not in: a tuple of any data -/
def rInTu (K : PySem.W.Frag) (neg : Bool) : R2 := fun x y H Q => ∃ d ds, Dp K H x d ∧ Dp K H y (.tuple ds) ∧ SeqAt.shaped d = true ∧ SeqAt.shaped (.tuple ds) = true ∧ Q (.bl (xor neg (ds.any fun z => PyData.eqv z d))) H
theorem op_inTu (hu : X.A.units + 65 < cLine) : OpR X (compareOp .In) (rInTu X.K false) := by
  rintro pins s σ H x y v u Q I rx ry ⟨d, ds, hd, he, sd, se, q⟩
  obtain ⟨as, r1⟩ := Dp.reads I d x v hd rx
  obtain ⟨bs, r2⟩ := Dp.reads I (.tuple ds) y u he ry
  rw [Bool.false_xor] at q
  refine SeqAt.in_tuple_reads r2 r1 (SeqAt.canLay_of_shaped se) (SeqAt.canLay_of_shaped sd) (PyProof.Rows.room_in_shaped sd hu) ?_
  exact ⟨.bl _, H, I, rfl, q⟩
theorem op_ninTu (hu : X.A.units + 65 < cLine) : OpR X (compareOp .NotIn) (rInTu X.K true) := by
  rintro pins s σ H x y v u Q I rx ry ⟨d, ds, hd, he, sd, se, q⟩
  obtain ⟨as, r1⟩ := Dp.reads I d x v hd rx
  obtain ⟨bs, r2⟩ := Dp.reads I (.tuple ds) y u he ry
  rw [Bool.true_xor] at q
  refine SeqAt.notIn_tuple_reads r2 r1 (SeqAt.canLay_of_shaped se) (SeqAt.canLay_of_shaped sd) (PyProof.Rows.room_in_shaped sd hu) ?_
  exact ⟨.bl _, H, I, rfl, q⟩
def rInDD (K : PySem.W.Frag) : R2 := fun x y H Q => (∃ (c : Nat) (z : Str), x = .str ⟨#[c]⟩ ∧ y = .str z ∧ Q (.bl (decide (c ∈ z.cps.toList))) H) ∨ rIn K false x y H Q ∨ rInD K x y H Q ∨ rInTu K false x y H Q
def rNinDD (K : PySem.W.Frag) : R2 := fun x y H Q => (∃ (c : Nat) (z : Str), x = .str ⟨#[c]⟩ ∧ y = .str z ∧ Q (.bl (!decide (c ∈ z.cps.toList))) H) ∨ rIn K true x y H Q ∨ rNotInD K x y H Q ∨ rInTu K true x y H Q
theorem op_inDD (hu : X.A.units + 65 < cLine) : OpR X (compareOp .In) (rInDD X.K) := OpR.or op_in_sign (OpR.or op_in_seq (OpR.or (op_inD hu) (op_inTu hu)))
theorem op_ninDD (hu : X.A.units + 65 < cLine) : OpR X (compareOp .NotIn) (rNinDD X.K) := OpR.or op_notIn_sign (OpR.or op_notIn_seq (OpR.or (op_notInD hu) (op_ninTu hu)))
theorem one_sign {x : Str} (h : x.cps.size = 1) : x = ⟨#[x.cps.getD 0 0]⟩ := by
  obtain ⟨a⟩ := x
  obtain ⟨l⟩ := a
  match l, h with
  | [c], _ => rfl
theorem inO_cases {d e : PyData} {b : Bool} (h : inO d e = some b) :
    (∃ x z, d = .str x ∧ e = .str z ∧ x.cps.size = 1 ∧ b = decide (x.cps.getD 0 0 ∈ z.cps.toList)) ∨
    (∃ ds v vs, (e = .tuple ds ∨ e = .list ds) ∧ dV d = some v ∧ dVs ds = some vs ∧ b = inV v vs) ∨
    (∃ ds, (e = .list ds ∨ e = .tuple ds) ∧ SeqAt.shaped d = true ∧ SeqAt.shaped e = true ∧ b = ds.any fun z => PyData.eqv z d) := by
  unfold inO at h
  split at h
  next z =>
    split at h
    next x =>
      split at h
      next hs => cases h; exact .inl ⟨x, z, rfl, rfl, hs, rfl⟩
      next => cases h
    next => cases h
  next ds =>
    split at h
    next v vs e1 e2 => cases h; exact .inr (.inl ⟨ds, v, vs, .inl rfl, e1, e2, rfl⟩)
    next =>
      split at h
      next hs => cases h; exact .inr (.inr ⟨ds, .inr rfl, hs.1, hs.2, rfl⟩)
      next => cases h
  next ds =>
    split at h
    next v vs e1 e2 => cases h; exact .inr (.inl ⟨ds, v, vs, .inr rfl, e1, e2, rfl⟩)
    next =>
      split at h
      next hs => cases h; exact .inr (.inr ⟨ds, .inl rfl, hs.1, hs.2, rfl⟩)
      next => cases h
  next => cases h
theorem sq_of_dr {K : PySem.W.Frag} {H : Hp} {y : V} {e : PyData} {ds : List PyData} (h : DR K H y e) (he : e = .tuple ds ∨ e = .list ds) : ∃ p vs, y = .ref p ∧ (SqL K H p vs ∨ SqT K H p vs) ∧ DRAll K H vs ds := by
  rcases he with rfl | rfl
  · cases h with
    | tup a b => exact ⟨_, _, rfl, .inr a, b⟩
  · cases h with
    | lst a b => exact ⟨_, _, rfl, .inl (SqL.of a), b⟩
theorem ok_in : ROk P (rInDD P.K) inD := by
  intro S H x y dx dy dz Q hS hx hy e q
  unfold inD at e
  split at e
  next d d' =>
    split at e
    next b eb =>
      cases e
      have hx : DR P.K H x d := dr_mono (mk_le S H) _ _ hx
      have hy : DR P.K H y d' := dr_mono (mk_le S H) _ _ hy
      rcases inO_cases eb with ⟨a, z, rfl, rfl, h1, rfl⟩ | ⟨ds, v, vs, he, h1, h2, rfl⟩ | ⟨ds, hd | hd, h1, h2, rfl⟩
      · cases hx
        cases hy
        exact .inl ⟨_, z, by rw [← one_sign h1], rfl, q _ H (Same.refl _) (DR.bl _)⟩
      · obtain ⟨p, us, rfl, g1, g2⟩ := sq_of_dr hy he
        obtain ⟨rfl, g3⟩ := dvs_dr g2 h2
        have := dv_dr hx h1
        subst this
        exact .inr (.inl ⟨p, us, rfl, g1, flat_dv hx h1, g3, q _ H (Same.refl _) (DR.bl _)⟩)
      · subst hd
        exact .inr (.inr (.inl ⟨d, ds, dr_dp _ _ hx, dr_dp _ _ hy, h1, h2, q _ H (Same.refl _) (DR.bl _)⟩))
      · subst hd
        exact .inr (.inr (.inr ⟨d, ds, dr_dp _ _ hx, dr_dp _ _ hy, h1, h2, by first | (rw [Bool.false_xor]; exact q _ H (Same.refl _) (DR.bl _)) | (rw [Bool.true_xor]; exact q _ H (Same.refl _) (DR.bl _))⟩))
    next => cases e
  next => cases e
theorem ok_nin : ROk P (rNinDD P.K) ninD := by
  intro S H x y dx dy dz Q hS hx hy e q
  unfold ninD at e
  split at e
  next d d' =>
    split at e
    next b eb =>
      cases e
      have hx : DR P.K H x d := dr_mono (mk_le S H) _ _ hx
      have hy : DR P.K H y d' := dr_mono (mk_le S H) _ _ hy
      rcases inO_cases eb with ⟨a, z, rfl, rfl, h1, rfl⟩ | ⟨ds, v, vs, he, h1, h2, rfl⟩ | ⟨ds, hd | hd, h1, h2, rfl⟩
      · cases hx
        cases hy
        exact .inl ⟨_, z, by rw [← one_sign h1], rfl, q _ H (Same.refl _) (DR.bl _)⟩
      · obtain ⟨p, us, rfl, g1, g2⟩ := sq_of_dr hy he
        obtain ⟨rfl, g3⟩ := dvs_dr g2 h2
        have := dv_dr hx h1
        subst this
        exact .inr (.inl ⟨p, us, rfl, g1, flat_dv hx h1, g3, q _ H (Same.refl _) (DR.bl _)⟩)
      · subst hd
        exact .inr (.inr (.inl ⟨d, ds, dr_dp _ _ hx, dr_dp _ _ hy, h1, h2, q _ H (Same.refl _) (DR.bl _)⟩))
      · subst hd
        exact .inr (.inr (.inr ⟨d, ds, dr_dp _ _ hx, dr_dp _ _ hy, h1, h2, by first | (rw [Bool.false_xor]; exact q _ H (Same.refl _) (DR.bl _)) | (rw [Bool.true_xor]; exact q _ H (Same.refl _) (DR.bl _))⟩))
    next => cases e
  next => cases e

/-! ### subscripts, slices -/
def ixD : Vl → Vl → Option Vl
  | .dat (.list ds), .dat (.int i) => match atI ds i with
    | some d => some (.dat d)
    | none => none
  | .dat (.tuple ds), .dat (.int i) => match atI ds i with
    | some d => some (.dat d)
    | none => none
  | .dat (.str z), .dat (.int i) => if z.length ≤ 100000 then match atI z.cps.toList i with
      | some c => some (.dat (.str ⟨#[c]⟩))
      | none => none
    else none
  | _, _ => none
theorem atI_all {K : PySem.W.Frag} {H : Hp} {vs : List V} {ds : List PyData} {i : Int} {d : PyData} (h : DRAll K H vs ds) (e : atI ds i = some d) : ∃ v, atI vs i = some v ∧ DR K H v d := by
  unfold atI at e ⊢
  rw [DRAll.length h]
  cases q : ixN ds.length i with
  | none => rw [q] at e; cases e
  | some j =>
    rw [q] at e
    exact DRAll.get h e
theorem ok_ix : ROk P (rIx P.K) ixD := by
  intro S H x y dx dy dz Q hS hx hy e q
  unfold ixD at e
  split at e
  next ds i =>
    split at e
    next d ed =>
      cases e
      rw [vr_int hy]
      obtain ⟨a, vs, rfl, h1, h2⟩ := vr_lst hx
      obtain ⟨v, e1, e2⟩ := atI_all h2 ed
      exact .inl ⟨a, vs, i, v, rfl, rfl, SqL.of (mk_le S H _ _ h1), e1, q _ H (Same.refl _) e2⟩
    next => cases e
  next ds i =>
    split at e
    next d ed =>
      cases e
      rw [vr_int hy]
      obtain ⟨a, vs, rfl, h1, h2⟩ := vr_tup hx
      obtain ⟨v, e1, e2⟩ := atI_all h2 ed
      exact .inr (.inl ⟨a, vs, i, v, rfl, rfl, sqT_mono (mk_le S H) h1, e1, q _ H (Same.refl _) e2⟩)
    next => cases e
  next z i =>
    split at e
    next hl =>
      split at e
      next c ec =>
        cases e
        rw [vr_int hy, vr_str hx]
        exact .inr (.inr ⟨z, i, c, rfl, rfl, sz_of hl, ec, q _ H (Same.refl _) (DR.str _)⟩)
      next => cases e
    next => cases e
  next => cases e
theorem fe_ix {a b : Expr} {fa fb : Mx Vl} {pos : Pos} (ha : FE X P a fa) (hb : FE X P b fb) (hK : X.K = P.K := by rfl) (hs : PlainIx b := by exact (fun _ _ => rfl)) : FE X P (.Subscript a b pos) (m2 ixD fa fb) :=
  PE.imp (pe_ix ix_seq ha hb hs) (by rw [hK]; exact tE_op ok_ix)
/-- the items from lo to hi -/
def cutD {α : Type} (xs : List α) (lo hi : Option Int) : List α := (xs.drop (HT.sIx xs.length 0 lo)).take (HT.sIx xs.length xs.length hi - HT.sIx xs.length 0 lo)
def slD : Vl → Option Int → Option Int → Option Vl
  | .dat (.list ds), lo, hi => some (.dat (.list (cutD ds lo hi)))
  | .dat (.tuple ds), lo, hi => some (.dat (.tuple (cutD ds lo hi)))
  | .dat (.str z), lo, hi => if z.length ≤ 100000 then some (.dat (.str (cutS z lo hi))) else none
  | _, _, _ => none
def mSl (fa : Mx Vl) (fl fh : Mx (Option Int)) : Mx Vl := bnd fa fun x => bnd fl fun l => bnd fh fun h => opt (slD x l h)
def mSome (fa : Mx Vl) : Mx (Option Int) := bnd fa fun x => opt (match x with
  | .dat (.int i) => some (some i)
  | _ => none)
def mNone : Mx (Option Int) := pur none
theorem fo_none : PO X none (tO P mNone) := by
  refine PO.imp po_none ?_
  rintro σ H Q ⟨M, r0, ss, rw, z, rw', I, e, q⟩
  obtain ⟨rfl, rfl⟩ := pur_some e
  exact q H (KeepR.refl _ _) I
theorem fo_some {e : Expr} {fa : Mx Vl} (h : FE X P e fa) : PO X (some e) (tO P (mSome fa)) := by
  refine PO.imp (po_some h) ?_
  rintro σ H Q ⟨M, r0, ss, rw, z, rw', I, e, q⟩
  obtain ⟨x, rw1, e1, e⟩ := bnd_some e
  obtain ⟨e2, rfl⟩ := opt_some e
  refine ⟨M, r0, ss, rw, x, _, I, e1, fun v H1 k1 I1 hv => ?_⟩
  split at e2
  next i =>
    cases e2
    rw [vr_int hv]
    exact ⟨i, rfl, q H1 k1 I1⟩
  next => cases e2
def rSlD (K : PySem.W.Frag) : V → Option Int → Option Int → Hp → VK → Prop := fun x lo hi H Q => rSlL K x lo hi H Q ∨ rSlA K x lo hi H Q ∨ rSlS x lo hi H Q
theorem sl_D : SlR X (rSlD X.K) := L2.SlR.or sl_list (L2.SlR.or sl_tupA sl_str)
theorem cutV_cut (vs : List V) (lo hi : Option Int) : cutV vs lo hi = cutD vs lo hi := rfl
theorem cut_all {K : PySem.W.Frag} {H : Hp} {vs : List V} {ds : List PyData} (h : DRAll K H vs ds) (lo hi : Option Int) : DRAll K H (cutV vs lo hi) (cutD ds lo hi) := by
  rw [cutV_cut]
  unfold cutD
  rw [DRAll.length h]
  exact DRAll.take _ (DRAll.drop _ h)
theorem cut_whole {ds : List PyData} {lo hi : Option Int} (h : HT.sIx ds.length 0 lo = 0 ∧ HT.sIx ds.length ds.length hi = ds.length) : cutD ds lo hi = ds := by
  unfold cutD
  rw [h.1, h.2]
  simp
theorem fe_sl {e : Expr} {lo hi : Option Expr} {fa : Mx Vl} {fl fh : Mx (Option Int)} {p2 pos : Pos} (he : FE X P e fa) (hl : PO X lo (tO P fl)) (hh : PO X hi (tO P fh)) (hK : X.K = P.K := by rfl) : FE X P (.Subscript e (.Slice lo hi none p2) pos) (mSl fa fl fh) := by
  refine PE.imp (pe_slice sl_D he hl hh) ?_
  rw [hK]
  rintro σ H Q ⟨M, r0, ss, rw, z, rw', I, e, q⟩
  obtain ⟨x, rw1, e1, e⟩ := bnd_some e
  obtain ⟨l, rw2, e2, e⟩ := bnd_some e
  obtain ⟨h, rw3, e3, e⟩ := bnd_some e
  obtain ⟨e4, rfl⟩ := opt_some e
  refine ⟨M, r0, ss, rw, x, rw1, I, e1, fun v H1 k1 I1 hv => ⟨M, r0, ss, rw1, l, rw2, I1, e2, fun H2 k2 I2 => ⟨M, r0, ss, rw2, h, _, I2, e3, fun H3 k3 I3 => ?_⟩⟩⟩
  have hv3 := VR.mono k3.msk (VR.mono k2.msk hv)
  have k := (k1.trans k2).trans k3
  unfold slD at e4
  split at e4
  next ds =>
    cases e4
    obtain ⟨a, vs, rfl, h1, h2⟩ := vr_lst hv3
    refine .inl ⟨a, vs, rfl, SqL.of (mk_le _ H3 _ _ h1), fun p hp => ?_⟩
    obtain ⟨s3, n⟩ := new_lst (P := P) I3.alloc (cut_all h2 l h) hp
    exact q _ _ (k.trans (KeepR.of s3)) (I3.grow s3) n
  next ds =>
    cases e4
    obtain ⟨a, vs, rfl, h1, h2⟩ := vr_tup hv3
    refine .inr (.inl ⟨a, vs, rfl, sqT_mono (mk_le _ H3) h1, fun hw => ?_, fun hw p hp => ?_⟩)
    · rw [DRAll.length h2] at hw
      rw [cut_whole hw] at q
      exact q _ _ k I3 hv3
    · obtain ⟨s3, n⟩ := new_tup (P := P) I3.alloc (cut_all h2 l h) hp
      exact q _ _ (k.trans (KeepR.of s3)) (I3.grow s3) n
  next z =>
    split at e4
    next hl =>
      cases e4
      rw [vr_str hv3]
      exact .inr (.inr ⟨_, rfl, sz_of hl, q _ H3 k I3 (DR.str _)⟩)
    next => cases e4
  next => cases e4

/-! ### built-ins, by values -/
/-- one argument -/
def COk (P : Pm) (r : List V → Hp → VK → Prop) (g : Vl → Option Vl) : Prop := ∀ (S : Addr → Prop) (H : Hp) (x : V) (dx dz : Vl) (Q : VK), (∀ a, S a → H a ≠ none) → VR P (hdn S H) x dx → g dx = some dz →
  (∀ v H', Same H H' → VR P (hdn S H') v dz → Q v H') → r [x] H Q
def COk2 (P : Pm) (r : List V → Hp → VK → Prop) (g : Vl → Vl → Option Vl) : Prop := ∀ (S : Addr → Prop) (H : Hp) (x y : V) (dx dy dz : Vl) (Q : VK), (∀ a, S a → H a ≠ none) → VR P (hdn S H) x dx → VR P (hdn S H) y dy → g dx dy = some dz →
  (∀ v H', Same H H' → VR P (hdn S H') v dz → Q v H') → r [x, y] H Q
section
variable {x : Str} {p pos : Pos} {a b : Expr} {fa fb : Mx Vl} {id T : String} {r : List V → Hp → VK → Prop} {g : Vl → Option Vl} {g2 : Vl → Vl → Option Vl}
theorem tE_c1 (hr : COk P r g) : ∀ σ H Q, tE P (m1 g fa) σ H Q → tCB r (tCons (tE P fa) tNil) σ H Q := by
  rintro σ H Q ⟨M, r0, ss, rw, z, rw', I, e, q⟩
  obtain ⟨y, rw1, e1, e⟩ := bnd_some e
  obtain ⟨e3, rfl⟩ := opt_some e
  exact ⟨M, r0, ss, rw, y, _, I, e1, fun v H1 k1 I1 hv => hr (Msk M r0 σ ss) H1 v y z Q I1.alloc hv e3 fun w H3 s3 hw => q w H3 (k1.trans (KeepR.of s3)) (I1.grow s3) hw⟩
theorem tE_c2 (hr : COk2 P r g2) : ∀ σ H Q, tE P (m2 g2 fa fb) σ H Q → tCB r (tCons (tE P fa) (tCons (tE P fb) tNil)) σ H Q := by
  rintro σ H Q ⟨M, r0, ss, rw, z, rw', I, e, q⟩
  obtain ⟨y, rw1, e1, e⟩ := bnd_some e
  obtain ⟨w, rw2, e2, e⟩ := bnd_some e
  obtain ⟨e3, rfl⟩ := opt_some e
  exact ⟨M, r0, ss, rw, y, _, I, e1, fun v H1 k1 I1 hv => ⟨M, r0, ss, rw1, w, _, I1, e2, fun u H2 k2 I2 hu =>
    hr (Msk M r0 σ ss) H2 v u y w z Q I2.alloc (VR.mono k2.msk hv) hu e3 fun w H3 s3 hw => q w H3 ((k1.trans k2).trans (KeepR.of s3)) (I2.grow s3) hw⟩⟩
theorem fe_b1 (hc : CallR X (.builtin id) r) (hr : COk P r g) (hm : X.mg x = none) (hv : bootBuiltins x = some (.builtin id)) (ha : FE X P a fa) (hg : Gl X x := by rfl) (hn : x ≠ "__name__" := by decide) (hdb : (x == ("__debug__" : Str)) = false := by decide)
    (he0 : starEach [a] X.env = (false, eval a X.env) :: starEach [] X.env := by rfl) (hpl : (backTo pos (starEach [] X.env)).any (·.1) = false := by rfl) : FE X P (.Call (.Name x p) [a] [] pos) (m1 g fa) :=
  PE.imp (pe_callB hc hg hm hv (pa_cons ha pa_nil he0) hn hdb he0 hpl) (tE_c1 hr)
theorem fe_t1 (hc : CallR X (.type T) r) (hr : COk P r g) (hm : X.mg x = none) (hv : bootBuiltins x = some (.type T)) (ha : FE X P a fa) (hg : Gl X x := by rfl) (hn : x ≠ "__name__" := by decide) (hdb : (x == ("__debug__" : Str)) = false := by decide)
    (he0 : starEach [a] X.env = (false, eval a X.env) :: starEach [] X.env := by rfl) (hpl : (backTo pos (starEach [] X.env)).any (·.1) = false := by rfl) : FE X P (.Call (.Name x p) [a] [] pos) (m1 g fa) :=
  PE.imp (pe_callTy hc hg hm hv (pa_cons ha pa_nil he0) hn hdb he0 hpl) (tE_c1 hr)
theorem fe_b2 (hc : CallR X (.builtin id) r) (hr : COk2 P r g2) (hm : X.mg x = none) (hv : bootBuiltins x = some (.builtin id)) (ha : FE X P a fa) (hb : FE X P b fb) (hg : Gl X x := by rfl) (hn : x ≠ "__name__" := by decide) (hdb : (x == ("__debug__" : Str)) = false := by decide)
    (hb0 : starEach [b] X.env = (false, eval b X.env) :: starEach [] X.env := by rfl) (he0 : starEach [a, b] X.env = (false, eval a X.env) :: starEach [b] X.env := by rfl) (hpl : (backTo pos (starEach [b] X.env)).any (·.1) = false := by rfl) : FE X P (.Call (.Name x p) [a, b] [] pos) (m2 g2 fa fb) :=
  PE.imp (pe_callB hc hg hm hv (pa_cons ha (pa_cons hb pa_nil hb0) he0) hn hdb he0 hpl) (tE_c2 hr)
end
def lenD : Vl → Option Vl
  | .dat (.list ds) => some (.dat (.int ds.length))
  | .dat (.tuple ds) => some (.dat (.int ds.length))
  | .dat (.str z) => if z.length ≤ 100000 then some (.dat (.int z.length)) else none
  | _ => none
def rLen (K : PySem.W.Frag) : List V → Hp → VK → Prop := fun xs H Q => ∃ x n, xs = [x] ∧ LenV K x H n ∧ Q (.int n) H
theorem ok_len : COk P (rLen P.K) lenD := by
  intro S H x dx dz Q hS hx e q
  unfold lenD at e
  split at e
  next ds =>
    cases e
    obtain ⟨a, vs, rfl, h1, h2⟩ := vr_lst hx
    exact ⟨_, _, rfl, .inl ⟨vs, SqL.of (mk_le S H _ _ h1), rfl⟩, by rw [DRAll.length h2]; exact q _ H (Same.refl _) (DR.int _)⟩
  next ds =>
    cases e
    obtain ⟨a, vs, rfl, h1, h2⟩ := vr_tup hx
    exact ⟨_, _, rfl, .inr ⟨vs, sqT_mono (mk_le S H) h1, rfl⟩, by rw [DRAll.length h2]; exact q _ H (Same.refl _) (DR.int _)⟩
  next z =>
    split at e
    next hl =>
      cases e
      rw [vr_str hx]
      exact ⟨_, _, rfl, ⟨sz_of hl, rfl⟩, q _ H (Same.refl _) (DR.int _)⟩
    next => cases e
  next => cases e
theorem call_lenD : CallR X (.builtin "len") (rLen X.K) := call_len
def tupleD : Vl → Option Vl
  | .dat (.list ds) => some (.dat (.tuple ds))
  | .dat (.tuple ds) => some (.dat (.tuple ds))
  | _ => none
def rTupOf (K : PySem.W.Frag) : List V → Hp → VK → Prop := fun xs H Q => ∃ p ys, xs = [.ref p] ∧ ((SqL K H p ys ∧ ∀ l, H l = none → Q (.ref l) (upd H l (.tup ys))) ∨ (SqT K H p ys ∧ Q (.ref p) H))
theorem call_tupD : CallR X (.type "tuple") (rTupOf X.K) := call_tuple_of
theorem ok_tuple : COk P (rTupOf P.K) tupleD := by
  intro S H x dx dz Q hS hx e q
  unfold tupleD at e
  split at e
  next ds =>
    cases e
    obtain ⟨a, vs, rfl, h1, h2⟩ := vr_lst hx
    refine ⟨a, vs, rfl, .inl ⟨SqL.of (mk_le S H _ _ h1), fun p hp => ?_⟩⟩
    obtain ⟨s3, n⟩ := new_tup (P := P) hS h2 hp
    exact q _ _ s3 n
  next ds =>
    cases e
    obtain ⟨a, vs, rfl, h1, h2⟩ := vr_tup hx
    exact ⟨a, vs, rfl, .inr ⟨sqT_mono (mk_le S H) h1, q _ H (Same.refl _) hx⟩⟩
  next => cases e
def listD : Vl → Option Vl
  | .dat (.list ds) => some (.dat (.list ds))
  | .dat (.tuple ds) => some (.dat (.list ds))
  | _ => none
def rLstOf (K : PySem.W.Frag) : List V → Hp → VK → Prop := fun xs H Q => ∃ p ys, xs = [.ref p] ∧ (SqL K H p ys ∨ SqT K H p ys) ∧ ∀ l, H l = none → Q (.ref l) (upd H l (.lst ys))
theorem call_lstD : CallR X (.type "list") (rLstOf X.K) := call_list_of
theorem ok_list : COk P (rLstOf P.K) listD := by
  intro S H x dx dz Q hS hx e q
  unfold listD at e
  split at e
  next ds =>
    cases e
    obtain ⟨a, vs, rfl, h1, h2⟩ := vr_lst hx
    refine ⟨a, vs, rfl, .inl (SqL.of (mk_le S H _ _ h1)), fun p hp => ?_⟩
    obtain ⟨s3, n⟩ := new_lst (P := P) hS h2 hp
    exact q _ _ s3 n
  next ds =>
    cases e
    obtain ⟨a, vs, rfl, h1, h2⟩ := vr_tup hx
    refine ⟨a, vs, rfl, .inr (sqT_mono (mk_le S H) h1), fun p hp => ?_⟩
    obtain ⟨s3, n⟩ := new_lst (P := P) hS h2 hp
    exact q _ _ s3 n
  next => cases e
def intD : Vl → Option Vl
  | .dat (.int i) => some (.dat (.int i))
  | .dat (.bool b) => some (.dat (.int (if b then 1 else 0)))
  | _ => none
def rInt : List V → Hp → VK → Prop := fun xs H Q => (∃ i, xs = [.int i] ∧ Q (.int i) H) ∨ ∃ k, xs = [.bl k] ∧ Q (.int (if k then 1 else 0)) H
theorem call_intD : CallR X (.type "int") rInt := call_int1
theorem ok_int : COk P rInt intD := by
  intro S H x dx dz Q hS hx e q
  unfold intD at e
  split at e
  next i =>
    cases e
    rw [vr_int hx]
    exact .inl ⟨i, rfl, q _ H (Same.refl _) (DR.int _)⟩
  next b =>
    cases e
    rw [vr_bool hx]
    exact .inr ⟨b, rfl, q _ H (Same.refl _) (DR.int _)⟩
  next => cases e
def absD : Vl → Option Vl
  | .dat (.int i) => some (.dat (.int (if i < 0 then -i else i)))
  | _ => none
theorem ok_abs : COk P (fun xs H Q => ∃ i, xs = [.int i] ∧ Q (.int (if i < 0 then -i else i)) H) absD := by
  intro S H x dx dz Q hS hx e q
  unfold absD at e
  split at e
  next i =>
    cases e
    rw [vr_int hx]
    exact ⟨i, rfl, q _ H (Same.refl _) (DR.int _)⟩
  next => cases e
def max2I (i j : Int) : Option PyData := some (.int (if j > i then j else i))
def min2I (i j : Int) : Option PyData := some (.int (if j < i then j else i))
def max2D := i2 max2I
def min2D := i2 min2I
theorem ok_c2 {f : Int → Int → V} {g : Int → Int → Option PyData} (h : ∀ i j d, g i j = some d → ∀ H, DR P.K H (f i j) d) : COk2 P (fun xs H Q => ∃ i j, xs = [.int i, .int j] ∧ Q (f i j) H) (i2 g) := by
  intro S H x y dx dy dz Q hS hx hy e q
  unfold i2 at e
  split at e
  next i j =>
    split at e
    next d ed =>
      cases e
      rw [vr_int hx, vr_int hy]
      exact ⟨i, j, rfl, q _ H (Same.refl _) (h i j d ed _)⟩
    next => cases e
  next => cases e
theorem ok_max2 : COk2 P (fun xs H Q => ∃ i j, xs = [.int i, .int j] ∧ Q (.int (if j > i then j else i)) H) max2D := ok_c2 fun i j d e H => by cases e; exact .int _
theorem ok_min2 : COk2 P (fun xs H Q => ∃ i j, xs = [.int i, .int j] ∧ Q (.int (if j < i then j else i)) H) min2D := ok_c2 fun i j d e H => by cases e; exact .int _
/-- a list's ints, bools, texts -/
def ints? : List PyData → Option (List Int)
  | [] => some []
  | .int i :: ds => match ints? ds with
    | some is => some (i :: is)
    | none => none
  | _ => none
theorem ints?_map : ∀ {ds : List PyData} {ns : List Int}, ints? ds = some ns → ds = ns.map PyData.int
  | [], ns, h => by cases h; rfl
  | .int i :: ds, ns, h => by
    unfold ints? at h
    split at h
    next is e => cases h; rw [ints?_map e]; rfl
    next => cases h
  | .none :: _, _, h => by cases h
  | .bool _ :: _, _, h => by cases h
  | .str _ :: _, _, h => by cases h
  | .list _ :: _, _, h => by cases h
  | .tuple _ :: _, _, h => by cases h
  | .dict _ :: _, _, h => by cases h
def bls? : List PyData → Option (List Bool)
  | [] => some []
  | .bool i :: ds => match bls? ds with
    | some is => some (i :: is)
    | none => none
  | _ => none
theorem bls?_map : ∀ {ds : List PyData} {ns : List Bool}, bls? ds = some ns → ds = ns.map PyData.bool
  | [], ns, h => by cases h; rfl
  | .bool i :: ds, ns, h => by
    unfold bls? at h
    split at h
    next is e => cases h; rw [bls?_map e]; rfl
    next => cases h
  | .none :: _, _, h => by cases h
  | .int _ :: _, _, h => by cases h
  | .str _ :: _, _, h => by cases h
  | .list _ :: _, _, h => by cases h
  | .tuple _ :: _, _, h => by cases h
  | .dict _ :: _, _, h => by cases h
def strs? : List PyData → Option (List Str)
  | [] => some []
  | .str i :: ds => match strs? ds with
    | some is => some (i :: is)
    | none => none
  | _ => none
theorem strs?_map : ∀ {ds : List PyData} {ns : List Str}, strs? ds = some ns → ds = ns.map PyData.str
  | [], ns, h => by cases h; rfl
  | .str i :: ds, ns, h => by
    unfold strs? at h
    split at h
    next is e => cases h; rw [strs?_map e]; rfl
    next => cases h
  | .none :: _, _, h => by cases h
  | .int _ :: _, _, h => by cases h
  | .bool _ :: _, _, h => by cases h
  | .list _ :: _, _, h => by cases h
  | .tuple _ :: _, _, h => by cases h
  | .dict _ :: _, _, h => by cases h
def allD : Vl → Option Vl
  | .dat (.list ds) => match bls? ds with
    | some bs => some (.dat (.bool (bs.all id)))
    | none => none
  | _ => none
theorem ok_all : COk P (rAll P.K) allD := by
  intro S H x dx dz Q hS hx e q
  unfold allD at e
  split at e
  next ds =>
    split at e
    next bs eb =>
      cases e
      obtain ⟨a, vs, rfl, h1, h2⟩ := vr_lst hx
      rw [bls?_map eb] at h2
      rw [DRAll.bls_inv h2] at h1
      exact ⟨a, bs, rfl, SqL.of (mk_le S H _ _ h1), q _ H (Same.refl _) (DR.bl _)⟩
    next => cases e
  next => cases e
def anyD : Vl → Option Vl
  | .dat (.list ds) => match bls? ds with
    | some bs => some (.dat (.bool (bs.any id)))
    | none => none
  | _ => none
theorem ok_any : COk P (rAny P.K) anyD := by
  intro S H x dx dz Q hS hx e q
  unfold anyD at e
  split at e
  next ds =>
    split at e
    next bs eb =>
      cases e
      obtain ⟨a, vs, rfl, h1, h2⟩ := vr_lst hx
      rw [bls?_map eb] at h2
      rw [DRAll.bls_inv h2] at h1
      exact ⟨a, bs, rfl, SqL.of (mk_le S H _ _ h1), q _ H (Same.refl _) (DR.bl _)⟩
    next => cases e
  next => cases e
/-- the greatest, the least of a list of ints -/
def maxL : List Int → Int
  | [] => 0
  | n :: ns => ns.foldl (fun a b => if b > a then b else a) n
def minL : List Int → Int
  | [] => 0
  | n :: ns => ns.foldl (fun a b => if b < a then b else a) n
theorem fold_max : ∀ (ns : List Int) (a m : Int), (m = a ∨ m ∈ ns) → a ≤ m → (∀ y ∈ ns, y ≤ m) → ns.foldl (fun a b => if b > a then b else a) a = m
  | [], a, m, h, _, _ => by
    rcases h with h | h
    · exact h.symm
    · cases h
  | n :: ns, a, m, h, h1, h2 => by
    rw [List.foldl_cons]
    have hn := h2 n (List.mem_cons_self ..)
    refine fold_max ns _ m ?_ ?_ fun y hy => h2 y (List.mem_cons_of_mem _ hy)
    · rcases h with h | h
      · left; split <;> omega
      · rcases List.mem_cons.mp h with h | h
        · left; split <;> omega
        · exact .inr h
    · split <;> omega
theorem fold_min : ∀ (ns : List Int) (a m : Int), (m = a ∨ m ∈ ns) → m ≤ a → (∀ y ∈ ns, m ≤ y) → ns.foldl (fun a b => if b < a then b else a) a = m
  | [], a, m, h, _, _ => by
    rcases h with h | h
    · exact h.symm
    · cases h
  | n :: ns, a, m, h, h1, h2 => by
    rw [List.foldl_cons]
    have hn := h2 n (List.mem_cons_self ..)
    refine fold_min ns _ m ?_ ?_ fun y hy => h2 y (List.mem_cons_of_mem _ hy)
    · rcases h with h | h
      · left; split <;> omega
      · rcases List.mem_cons.mp h with h | h
        · left; split <;> omega
        · exact .inr h
    · split <;> omega
def maxD : Vl → Option Vl
  | .dat (.list ds) => match ints? ds with
    | some (n :: ns) => some (.dat (.int (maxL (n :: ns))))
    | _ => none
  | _ => none
def minD : Vl → Option Vl
  | .dat (.list ds) => match ints? ds with
    | some (n :: ns) => some (.dat (.int (minL (n :: ns))))
    | _ => none
  | _ => none
theorem ok_max : COk P (rMax P.K) maxD := by
  intro S H x dx dz Q hS hx e q
  unfold maxD at e
  split at e
  next ds =>
    split at e
    next n ns eb =>
      cases e
      obtain ⟨a, vs, rfl, h1, h2⟩ := vr_lst hx
      rw [ints?_map eb] at h2
      rw [DRAll.ints_inv h2] at h1
      refine ⟨a, n :: ns, rfl, SqL.of (mk_le S H _ _ h1), Nat.succ_pos _, fun m hm hy => ?_⟩
      have : maxL (n :: ns) = m := fold_max ns n m (List.mem_cons.mp hm) (hy n (List.mem_cons_self ..)) fun y h => hy y (List.mem_cons_of_mem _ h)
      rw [this] at q
      exact q _ H (Same.refl _) (DR.int _)
    next => cases e
  next => cases e
theorem ok_min : COk P (rMin P.K) minD := by
  intro S H x dx dz Q hS hx e q
  unfold minD at e
  split at e
  next ds =>
    split at e
    next n ns eb =>
      cases e
      obtain ⟨a, vs, rfl, h1, h2⟩ := vr_lst hx
      rw [ints?_map eb] at h2
      rw [DRAll.ints_inv h2] at h1
      refine ⟨a, n :: ns, rfl, SqL.of (mk_le S H _ _ h1), Nat.succ_pos _, fun m hm hy => ?_⟩
      have : minL (n :: ns) = m := fold_min ns n m (List.mem_cons.mp hm) (hy n (List.mem_cons_self ..)) fun y h => hy y (List.mem_cons_of_mem _ h)
      rw [this] at q
      exact q _ H (Same.refl _) (DR.int _)
    next => cases e
  next => cases e
/-- sep.join(texts) -/
def joinD : Vl → Vl → Option Vl
  | .dat (.str a), .dat (.list ds) => match strs? ds with
    | some ys => if (ys.map (·.length)).sum + ys.length * a.length ≤ 100000 then some (.dat (.str (Txt.join a ys))) else none
    | none => none
  | _, _ => none
theorem fe_join {o e : Expr} {fo fe : Mx Vl} {apos pos : Pos} (ho : FE X P o fo) (he : FE X P e fe) (hK : X.K = P.K := by rfl) (hs : starEach [e] X.env = [(false, eval e X.env)] := by rfl) (hbase : attributeBase o "join" X.env (eval o X.env) = eval o X.env := by rfl) (hline : (apos.endLine == pos.line) = true := by rfl) :
    FE X P (.Call (.Attribute o "join" apos) [e] [] pos) (m2 joinD fo fe) := by
  refine PE.imp (pe_join ho he hs hbase hline) ?_
  rw [hK]
  rintro σ H Q ⟨M, r0, ss, rw, z, rw', I, e, q⟩
  obtain ⟨y, rw1, e1, e⟩ := bnd_some e
  obtain ⟨w, rw2, e2, e⟩ := bnd_some e
  obtain ⟨e3, rfl⟩ := opt_some e
  refine ⟨M, r0, ss, rw, y, _, I, e1, fun v H1 k1 I1 hv => ?_⟩
  unfold joinD at e3
  split at e3
  next a ds =>
    split at e3
    next ys ey =>
      split at e3
      next hl =>
        cases e3
        rw [vr_str hv]
        refine ⟨⟨_, rfl⟩, M, r0, ss, rw1, _, _, I1, e2, fun u H2 k2 I2 hu => ?_⟩
        obtain ⟨l, vs, rfl, h1, h2⟩ := vr_lst hu
        rw [strs?_map ey] at h2
        rw [DRAll.strs_inv h2] at h1
        exact ⟨_, l, ys, rfl, rfl, .inl (SqL.of (mk_le _ H2 _ _ h1)), Nat.le_trans hl (by decide), q _ H2 (k1.trans k2) I2 (DR.str _)⟩
      next => cases e3
    next => cases e3
  next => cases e3
end
end FL
/-! What is walked, targets, comprehensions. -/
namespace FL
open PySem L2

/-! ### what is walked -/
/-- J gives the items xs, one after another, wherever what was seen in the heap H0 (without S0) is seen still -/
def Wlk (P : Pm) (S0 : Addr → Prop) (H0 : Hp) (J : It) (xs : List PyData) : Prop := ∀ (S1 : Addr → Prop) (H : Hp), Same (hdn S0 H0) (hdn S1 H) → (∀ a, S1 a → H a ≠ none) →
  (∀ i, i < xs.length → J.go i H ∧ ∀ x H', J.yld i H x H' → Same H H' ∧ ∃ d, xs[i]? = some d ∧ DR P.K (hdn S1 H') x d) ∧ J.stop xs.length H
def tI (P : Pm) (m : Mx (List PyData)) : TI := fun σ H R => ∃ M r ss rw xs rw', ER P M r σ H ss rw ∧ m ss rw = some (xs, rw') ∧
  ∀ J H', KeepR r H H' → ER P M r σ H' ss rw' → Wlk P (Msk M r σ ss) H' J xs → R J H'
abbrev FI (X : Cx) (P : Pm) (tg iter : Expr) (m : Mx (List PyData)) : Prop := PI X tg iter (tI P m)
theorem PI.imp {X : Cx} {tg iter : Expr} {w w' : TI} (h : PI X tg iter w) (i : ∀ σ H R, w' σ H R → w σ H R) : PI X tg iter w' := ⟨fun pins s σ H R I q => h.run pins s σ H R I (i σ H R q)⟩
theorem PI.or {X : Cx} {tg iter : Expr} {w w' : TI} (h : PI X tg iter w) (h' : PI X tg iter w') : PI X tg iter (fun σ H R => w σ H R ∨ w' σ H R) := ⟨fun pins s σ H R I q => by
  rcases q with q | q
  · exact h.run pins s σ H R I q
  · exact h'.run pins s σ H R I q⟩
section
variable {P : Pm} {X : Cx} {tg a b : Expr} {fa fb : Mx Vl}
theorem wlk_list {S : Addr → Prop} {H : Hp} {p : Addr} {vs : List V} {ds : List PyData} (h1 : SqL P.K (hdn S H) p vs) (h2 : DRAll P.K (hdn S H) vs ds) : Wlk P S H (Itl P.K p) ds := fun S1 H1 s al => by
  have hl := DRAll.length h2
  have q : SqL P.K H1 p vs := (mk_le S1 H1).seq (s.seq h1)
  refine ⟨fun i hi => ⟨walk_list.goes i H1 (by rw [hl]; exact hi) q, fun x H' y => ?_⟩, by rw [← hl]; exact walk_list.stops H1 q⟩
  obtain ⟨e1, e2⟩ := walk_list.yields i H1 x H' (by rw [hl]; exact hi) q y
  subst e1
  obtain ⟨d, hd⟩ : ∃ d, ds[i]? = some d := ⟨ds[i], List.getElem?_eq_getElem hi⟩
  obtain ⟨v, g1, g2⟩ := DRAll.get h2 hd
  rw [e2] at g1
  cases g1
  exact ⟨Same.refl _, d, hd, dr_mono s _ _ g2⟩
theorem wlk_tup {S : Addr → Prop} {H : Hp} {p : Addr} {vs : List V} {ds : List PyData} (h1 : SqT P.K (hdn S H) p vs) (h2 : DRAll P.K (hdn S H) vs ds) : Wlk P S H (Itt P.K p) ds := fun S1 H1 s al => by
  have hl := DRAll.length h2
  have q : SqT P.K H1 p vs := sqT_mono (mk_le S1 H1) (sqT_mono s h1)
  refine ⟨fun i hi => ⟨walk_tup.goes i H1 (by rw [hl]; exact hi) q, fun x H' y => ?_⟩, by rw [← hl]; exact walk_tup.stops H1 q⟩
  obtain ⟨e1, e2⟩ := walk_tup.yields i H1 x H' (by rw [hl]; exact hi) q y
  subst e1
  obtain ⟨d, hd⟩ : ∃ d, ds[i]? = some d := ⟨ds[i], List.getElem?_eq_getElem hi⟩
  obtain ⟨v, g1, g2⟩ := DRAll.get h2 hd
  rw [e2] at g1
  cases g1
  exact ⟨Same.refl _, d, hd, dr_mono s _ _ g2⟩
/-- the signs of a text -/
def signs (z : Str) : List PyData := z.cps.toList.map fun c => .str ⟨#[c]⟩
theorem wlk_str {S : Addr → Prop} {H : Hp} {z : Str} : Wlk P S H (Its z) (signs z) := fun S1 H1 s al => by
  have hl : (signs z).length = z.cps.size := by unfold signs; simp
  refine ⟨fun i hi => ⟨walk_str.goes i H1 (by rw [← hl]; exact hi) trivial, fun x H' y => ?_⟩, by rw [hl]; exact walk_str.stops H1 trivial⟩
  obtain ⟨e1, c, e2, e3⟩ := walk_str.yields i H1 x H' (by rw [← hl]; exact hi) trivial y
  subst e1
  subst e3
  refine ⟨Same.refl _, .str ⟨#[c]⟩, ?_, DR.str _⟩
  unfold signs
  rw [List.getElem?_map, Array.getElem?_toList, e2]
  rfl
/-- lo, lo + 1, .. -/
def rgD (lo : Int) (n : Nat) : List PyData := (List.range n).map fun i => .int (lo + (i : Nat))
theorem wlk_range {S : Addr → Prop} {H : Hp} {lo : Int} {n : Nat} : Wlk P S H (Itr lo n) (rgD lo n) := fun S1 H1 s al => by
  have hl : (rgD lo n).length = n := by unfold rgD; simp
  refine ⟨fun i hi => ⟨walk_range.goes i H1 (by rw [← hl]; exact hi) trivial, fun x H' y => ?_⟩, by rw [hl]; exact walk_range.stops H1 trivial⟩
  obtain ⟨e1, e2⟩ := walk_range.yields i H1 x H' (by rw [← hl]; exact hi) trivial y
  subst e1
  subst e2
  refine ⟨Same.refl _, .int (lo + (i : Nat)), ?_, DR.int _⟩
  unfold rgD
  rw [List.getElem?_map, List.getElem?_range (by rw [← hl]; exact hi)]
  rfl
/-- 0, 1, .. with the items -/
def enD (ds : List PyData) : List PyData := (ds.zipIdx 0).map fun p => .tuple [.int (p.2 : Nat), p.1]
theorem enD_len (ds : List PyData) : (enD ds).length = ds.length := by unfold enD; simp
theorem enD_get {ds : List PyData} {i : Nat} {d : PyData} (h : ds[i]? = some d) : (enD ds)[i]? = some (.tuple [.int (i : Nat), d]) := by
  unfold enD
  rw [List.getElem?_map, List.getElem?_zipIdx, h]
  simp
theorem new_pair {S : Addr → Prop} {H : Hp} {T : Addr} {x y : V} {d e : PyData} (al : ∀ a, S a → H a ≠ none) (hT : H T = none) (hx : DR P.K (hdn S H) x d) (hy : DR P.K (hdn S H) y e) :
    Same H (upd H T (.tup [x, y])) ∧ DR P.K (hdn S (upd H T (.tup [x, y]))) (.ref T) (.tuple [d, e]) := new_tup (P := P) al (.cons hx (.cons hy .nil)) hT
theorem wlk_enum {S : Addr → Prop} {H : Hp} {p : Addr} {vs : List V} {ds : List PyData} (h1 : SqL P.K (hdn S H) p vs) (h2 : DRAll P.K (hdn S H) vs ds) : Wlk P S H (Ite P.K p) (enD ds) := fun S1 H1 s al => by
  have hl := DRAll.length h2
  have q : SqL P.K H1 p vs := (mk_le S1 H1).seq (s.seq h1)
  refine ⟨fun i hi => ?_, by rw [enD_len, ← hl]; exact walk_enum.stops H1 q⟩
  rw [enD_len] at hi
  refine ⟨walk_enum.goes i H1 (by rw [hl]; exact hi) q, fun x H' y => ?_⟩
  obtain ⟨T, u, w, e1, e2, e3, e4, e5⟩ := walk_enum.yields i H1 x H' (by rw [hl]; exact hi) q y
  obtain ⟨d, hd⟩ : ∃ d, ds[i]? = some d := ⟨ds[i], List.getElem?_eq_getElem hi⟩
  obtain ⟨v, g1, g2⟩ := DRAll.get h2 hd
  have e5 : vs[i]? = some w := e5
  rw [e5] at g1
  cases g1
  cases e4
  subst e1 e3
  obtain ⟨k1, k2⟩ := new_pair (P := P) al e2 (DR.int (i : Nat)) (dr_mono s _ _ g2)
  exact ⟨k1, _, enD_get hd, k2⟩
def zpD : List PyData → List PyData → List PyData
  | d :: ds, e :: es => .tuple [d, e] :: zpD ds es
  | _, _ => []
theorem zpD_len : ∀ ds es : List PyData, (zpD ds es).length = min ds.length es.length
  | [], es => by simp [zpD]
  | d :: ds, [] => by simp [zpD]
  | d :: ds, e :: es => by
    unfold zpD
    rw [List.length_cons, zpD_len ds es, List.length_cons, List.length_cons]
    omega
theorem zpD_get : ∀ {ds es : List PyData} {i : Nat} {d e : PyData}, ds[i]? = some d → es[i]? = some e → (zpD ds es)[i]? = some (.tuple [d, e])
  | [], es, i, d, e, h, _ => by simp at h
  | d :: ds, [], i, _, e, _, h => by simp at h
  | d :: ds, e :: es, 0, d', e', h, h' => by
    have q1 : d = d' := by simpa using h
    have q2 : e = e' := by simpa using h'
    subst q1 q2
    rfl
  | d :: ds, e :: es, i + 1, d', e', h, h' => by
    unfold zpD
    rw [List.getElem?_cons_succ]
    exact zpD_get (by simpa using h) (by simpa using h')
/-- a list, a tuple, a text -/
def seqD : Vl → Option (List PyData)
  | .dat (.list ds) => some ds
  | .dat (.tuple ds) => some ds
  | .dat (.str z) => some (signs z)
  | _ => none
def mSeq (fa : Mx Vl) : Mx (List PyData) := bnd fa fun x => opt (seqD x)
theorem fi_seq (ha : FE X P a fa) (hK : X.K = P.K := by rfl) : FI X P tg a (mSeq fa) := by
  refine PI.imp (PI.or (pi_list ha) (PI.or (pi_tup ha) (pi_str ha))) ?_
  rw [hK]
  rintro σ H R ⟨M, r0, ss, rw, xs, rw', I, e, q⟩
  obtain ⟨y, rw1, e1, e⟩ := bnd_some e
  obtain ⟨e2, rfl⟩ := opt_some e
  unfold seqD at e2
  split at e2
  next ds =>
    cases e2
    refine .inl ⟨M, r0, ss, rw, _, _, I, e1, fun v H1 k1 I1 hv => ?_⟩
    obtain ⟨p, vs, rfl, h1, h2⟩ := vr_lst hv
    exact ⟨p, rfl, ⟨vs, SqL.of (mk_le _ H1 _ _ h1)⟩, q _ H1 k1 I1 (wlk_list (SqL.of h1) h2)⟩
  next ds =>
    cases e2
    refine .inr (.inl ⟨M, r0, ss, rw, _, _, I, e1, fun v H1 k1 I1 hv => ?_⟩)
    obtain ⟨p, vs, rfl, h1, h2⟩ := vr_tup hv
    exact ⟨p, rfl, ⟨vs, sqT_mono (mk_le _ H1) h1⟩, q _ H1 k1 I1 (wlk_tup h1 h2)⟩
  next z =>
    cases e2
    refine .inr (.inr ⟨M, r0, ss, rw, _, _, I, e1, fun v H1 k1 I1 hv => ?_⟩)
    exact ⟨_, vr_str hv, q _ H1 k1 I1 wlk_str⟩
  next => cases e2
def mRg1 (fa : Mx Vl) : Mx (List PyData) := bnd fa fun x => opt (match x with
  | .dat (.int j) => if -1000000 ≤ j ∧ j ≤ 1000000 then some (rgD 0 j.toNat) else none
  | _ => none)
def mRg2 (fa fb : Mx Vl) : Mx (List PyData) := bnd fa fun x => bnd fb fun y => opt (match x, y with
  | .dat (.int i), .dat (.int j) => if (-1000000 ≤ i ∧ i ≤ 1000000) ∧ -1000000 ≤ j ∧ j ≤ 1000000 then some (rgD i (j - i).toNat) else none
  | _, _ => none)
theorem fi_rg1 {p pos : Pos} (ha : FE X P a fa) (hm : X.mg "range" = none) (hg : Gl X "range" := by rfl) (hs : starEach [a] X.env = [(false, eval a X.env)] := by rfl) : FI X P tg (.Call (.Name "range" p) [a] [] pos) (mRg1 fa) := by
  refine PI.imp (pi_range1 hg hm (pa_cons ha pa_nil hs) hs) ?_
  rintro σ H R ⟨M, r0, ss, rw, xs, rw', I, e, q⟩
  obtain ⟨y, rw1, e1, e⟩ := bnd_some e
  obtain ⟨e2, rfl⟩ := opt_some e
  refine ⟨M, r0, ss, rw, _, _, I, e1, fun v H1 k1 I1 hv => ?_⟩
  split at e2
  next j =>
    split at e2
    next hj =>
      cases e2
      rw [vr_int hv]
      exact ⟨j, rfl, by omega, by omega, q _ H1 k1 I1 wlk_range⟩
    next => cases e2
  next => cases e2
theorem fi_rg2 {p pos : Pos} (ha : FE X P a fa) (hb : FE X P b fb) (hm : X.mg "range" = none) (hg : Gl X "range" := by rfl) (hs : starEach [a, b] X.env = [(false, eval a X.env), (false, eval b X.env)] := by rfl) (hs2 : starEach [b] X.env = [(false, eval b X.env)] := by rfl) :
    FI X P tg (.Call (.Name "range" p) [a, b] [] pos) (mRg2 fa fb) := by
  refine PI.imp (pi_range2 hg hm (pa_cons ha (pa_cons hb pa_nil hs2) (hs.trans (by rw [hs2]))) hs hs2) ?_
  rintro σ H R ⟨M, r0, ss, rw, xs, rw', I, e, q⟩
  obtain ⟨y, rw1, e1, e⟩ := bnd_some e
  obtain ⟨z, rw2, e3, e⟩ := bnd_some e
  obtain ⟨e2, rfl⟩ := opt_some e
  refine ⟨M, r0, ss, rw, _, _, I, e1, fun v H1 k1 I1 hv => ⟨M, r0, ss, _, _, _, I1, e3, fun u H2 k2 I2 hu => ?_⟩⟩
  split at e2
  next i j =>
    split at e2
    next hj =>
      cases e2
      rw [vr_int hv, vr_int hu]
      exact ⟨_, _, rfl, by omega, q _ H2 (k1.trans k2) I2 wlk_range⟩
    next => cases e2
  next => cases e2
def mEn (fa : Mx Vl) : Mx (List PyData) := bnd fa fun x => opt (match x with
  | .dat (.list ds) => some (enD ds)
  | _ => none)
theorem fi_enum {p pos tpos : Pos} {elts : List Expr} {kk : Nat} (ha : FE X P a fa) (hm : X.mg "enumerate" = none) (hK : X.K = P.K := by rfl) (hg : Gl X "enumerate" := by rfl) (hs : starEach [a] X.env = [(false, eval a X.env)] := by rfl) :
    FI X P (.Tuple elts kk tpos) (.Call (.Name "enumerate" p) [a] [] pos) (mEn fa) := by
  refine PI.imp (pi_enum hg hm (pa_cons ha pa_nil hs) hs) ?_
  rw [hK]
  rintro σ H R ⟨M, r0, ss, rw, xs, rw', I, e, q⟩
  obtain ⟨y, rw1, e1, e⟩ := bnd_some e
  obtain ⟨e2, rfl⟩ := opt_some e
  refine ⟨M, r0, ss, rw, _, _, I, e1, fun v H1 k1 I1 hv => ?_⟩
  split at e2
  next ds =>
    cases e2
    obtain ⟨p, vs, rfl, h1, h2⟩ := vr_lst hv
    exact ⟨p, vs, rfl, SqL.of (mk_le _ H1 _ _ h1), q _ H1 k1 I1 (wlk_enum (SqL.of h1) h2)⟩
  next => cases e2
end

/-! ### targets -/
/-- the slots outside vs are as they were -/
def Out0 (vs : List Nat) (σ σ' : St) (ss ss' : List Sl) : Prop := σ'.length = σ.length ∧ ss'.length = ss.length ∧ ∀ i, i ∉ vs → σ'[i]? = σ[i]? ∧ ss'[i]? = ss[i]?
def GOk (P : Pm) (t : TG) (g : PyData → List Sl → Option (List Sl)) (vs : List Nat) : Prop := ∀ (M : Addr → Prop) (r : Option Addr) (σ : St) (H : Hp) (ss : List Sl) (rw : Ro) (v : V) (d : PyData) (ss' : List Sl) (Q : St → Hp → Prop),
  ER P M r σ H ss rw → DR P.K (hdn (Msk M r σ ss) H) v d → g d ss = some ss' →
  (∀ σ', Out0 vs σ σ' ss ss' → ER P M r σ' H ss' rw → (∀ a, Own σ' ss' a → Own σ ss a) → Q σ' H) → t v σ H Q
def GsOk (P : Pm) (t : TGs) (g : List PyData → List Sl → Option (List Sl)) (vs : List Nat) : Prop := ∀ (M : Addr → Prop) (r : Option Addr) (σ : St) (H : Hp) (ss : List Sl) (rw : Ro) (us : List V) (ds : List PyData) (ss' : List Sl) (Q : St → Hp → Prop),
  ER P M r σ H ss rw → DRAll P.K (hdn (Msk M r σ ss) H) us ds → g ds ss = some ss' →
  (∀ σ', Out0 vs σ σ' ss ss' → ER P M r σ' H ss' rw → (∀ a, Own σ' ss' a → Own σ ss a) → Q σ' H) → t us σ H Q
def putS (i : Nat) (x : Sl) (ss : List Sl) : Option (List Sl) := if i < ss.length then some (ss.set i x) else none
section
variable {P : Pm} {M : Addr → Prop} {r : Option Addr} {σ : St} {H H' : Hp} {ss : List Sl} {rw : Ro}
theorem own_set {i : Nat} {v : V} {x : Vl} {a : Addr} (h : Own (σ.set i (some v)) (ss.set i (.vl x)) a) : Own σ ss a := by
  obtain ⟨j, ds, h1, h2⟩ := h
  by_cases hj : i = j
  · subst hj
    by_cases hl : i < ss.length
    · rw [List.getElem?_set_self hl] at h1
      cases h1
    · rw [List.getElem?_eq_none (by simpa using hl)] at h1
      cases h1
  · rw [List.getElem?_set_ne hj] at h1 h2
    exact ⟨j, ds, h1, h2⟩
theorem msk_sub {σ' : St} {ss' : List Sl} (h : ∀ a, Own σ' ss' a → Own σ ss a) : ∀ a, Msk M r σ' ss' a → Msk M r σ ss a := fun a z => by
  rcases z with z | z | z
  · exact .inl z
  · exact .inr (.inl z)
  · exact .inr (.inr (h a z))
/-- a slot gets a value -/
theorem ER.setv (I : ER P M r σ H ss rw) {i : Nat} {v : V} {x : Vl} (hi : i < ss.length) (hv : VR P (hdn (Msk M r σ ss) H) v x) : ER P M r (σ.set i (some v)) H (ss.set i (.vl x)) rw := by
  have sub : Same (hdn (Msk M r σ ss) H) (hdn (Msk M r (σ.set i (some v)) (ss.set i (.vl x))) H) := mk_sub (msk_sub fun a z => own_set z)
  refine ⟨by rw [List.length_set, List.length_set]; exact I.len, fun j y h => ?_, fun j ds h => ?_, fun j h => ?_, fun a h => ?_, I.m0, fun j k a ds es h1 h2 h3 h4 => ?_⟩
  · by_cases hj : i = j
    · subst hj
      rw [List.getElem?_set_self hi] at h
      cases h
      exact ⟨v, List.getElem?_set_self (by rw [I.len]; exact hi), VR.mono sub hv⟩
    · rw [List.getElem?_set_ne hj] at h ⊢
      obtain ⟨u, h1, h2⟩ := I.sl j y h
      exact ⟨u, h1, VR.mono sub h2⟩
  · by_cases hj : i = j
    · subst hj
      rw [List.getElem?_set_self hi] at h
      cases h
    · rw [List.getElem?_set_ne hj] at h ⊢
      obtain ⟨a, vs, h1, h2, h3, h4⟩ := I.ow j ds h
      exact ⟨a, vs, h1, h2, drAll_mono sub _ _ h3, h4⟩
  · by_cases hj : i = j
    · subst hj
      rw [List.getElem?_set_self hi] at h
      cases h
    · rw [List.getElem?_set_ne hj] at h ⊢
      exact I.rs j h
  · obtain ⟨h1, sa, h2, h3⟩ := I.rk a h
    exact ⟨h1, sa, h2, sub.seq h3⟩
  · have nj : i ≠ j := fun z => by
      subst z
      rw [List.getElem?_set_self hi] at h1
      cases h1
    have nk : i ≠ k := fun z => by
      subst z
      rw [List.getElem?_set_self hi] at h2
      cases h2
    rw [List.getElem?_set_ne nj] at h1 h3
    rw [List.getElem?_set_ne nk] at h2 h4
    exact I.inj j k a ds es h1 h2 h3 h4
def gNm (i : Nat) (d : PyData) (ss : List Sl) : Option (List Sl) := putS i (.vl (.dat d)) ss
theorem gok_name (i : Nat) : GOk P (gName i) (gNm i) [i] := by
  intro M r σ H ss rw v d ss' Q I hv e q
  unfold gNm putS at e
  split at e
  next hi =>
    cases e
    exact q _ ⟨List.length_set, List.length_set, fun j hj => by
      have hj' : i ≠ j := fun z => hj (by simp [z])
      rw [List.getElem?_set_ne hj', List.getElem?_set_ne hj']
      exact ⟨rfl, rfl⟩⟩ (I.setv hi hv) fun a z => own_set z
  next => cases e
def gsNil (ds : List PyData) (ss : List Sl) : Option (List Sl) := match ds with
  | [] => some ss
  | _ => none
def gsCons (g : PyData → List Sl → Option (List Sl)) (gs : List PyData → List Sl → Option (List Sl)) (ds : List PyData) (ss : List Sl) : Option (List Sl) := match ds with
  | d :: ds => match g d ss with
    | some ss1 => gs ds ss1
    | none => none
  | _ => none
theorem gsok_nil : GsOk P gNil gsNil [] := by
  intro M r σ H ss rw us ds ss' Q I hv e q
  unfold gsNil at e
  split at e
  next =>
    cases e
    cases hv
    exact ⟨rfl, q σ ⟨rfl, rfl, fun _ _ => ⟨rfl, rfl⟩⟩ I fun _ z => z⟩
  next => cases e
theorem gsok_cons {t : TG} {ts : TGs} {g : PyData → List Sl → Option (List Sl)} {gs : List PyData → List Sl → Option (List Sl)} {vs ws : List Nat} (h1 : GOk P t g vs) (h2 : GsOk P ts gs ws) : GsOk P (gCons t ts) (gsCons g gs) (vs ++ ws) := by
  intro M r σ H ss rw us ds ss' Q I hv e q
  unfold gsCons at e
  split at e
  next d ds' =>
    split at e
    next ss1 e1 =>
      cases hv with
      | cons q1 q2 =>
        refine ⟨_, _, rfl, h1 M r σ H ss rw _ d ss1 _ I q1 e1 fun σ1 o1 I1 w1 => ?_⟩
        refine h2 M r σ1 H ss1 rw _ ds' ss' Q I1 (drAll_mono (mk_sub (msk_sub w1)) _ _ q2) e fun σ2 o2 I2 w2 => ?_
        refine q σ2 ⟨o2.1.trans o1.1, o2.2.1.trans o1.2.1, fun i hi => ?_⟩ I2 fun a z => w1 a (w2 a z)
        have n1 : i ∉ vs := fun z => hi (List.mem_append_left _ z)
        have n2 : i ∉ ws := fun z => hi (List.mem_append_right _ z)
        exact ⟨(o2.2.2 i n2).1.trans (o1.2.2 i n1).1, (o2.2.2 i n2).2.trans (o1.2.2 i n1).2⟩
    next => cases e
  next => cases e
def gTp (n : Nat) (gs : List PyData → List Sl → Option (List Sl)) (d : PyData) (ss : List Sl) : Option (List Sl) := match d with
  | .tuple ds => if ds.length = n then gs ds ss else none
  | _ => none
theorem gok_tup {ts : TGs} {gs : List PyData → List Sl → Option (List Sl)} {vs : List Nat} (n : Nat) (h : GsOk P ts gs vs) : GOk P (gTup P.K n ts) (gTp n gs) vs := by
  intro M r σ H ss rw v d ss' Q I hv e q
  unfold gTp at e
  split at e
  next ds =>
    split at e
    next hn =>
      obtain ⟨a, us, rfl, g1, g2⟩ := vr_tup (P := P) hv
      exact ⟨a, us, rfl, sqT_mono (mk_le _ H) g1, (DRAll.length g2).trans hn, h M r σ H ss rw us ds ss' Q I g2 e q⟩
    next => cases e
  next => cases e

/-! ### comprehensions -/
def wipeS (ss : List Sl) : List Nat → List Sl
  | [] => ss
  | v :: vs => (wipeS ss vs).set v .no
theorem wipeS_length (ss : List Sl) : ∀ vs : List Nat, (wipeS ss vs).length = ss.length
  | [] => rfl
  | v :: vs => by unfold wipeS; rw [List.length_set, wipeS_length ss vs]
theorem wipe_at (σ : St) : ∀ (vs : List Nat) (i : Nat), (wipe σ vs)[i]? = if i ∈ vs then (σ[i]?).map fun _ => none else σ[i]?
  | [], i => by simp [wipe]
  | v :: vs, i => by
    unfold wipe
    by_cases hv : v = i
    · subst hv
      rw [if_pos List.mem_cons_self]
      by_cases hl : v < (wipe σ vs).length
      · rw [List.getElem?_set_self hl]
        rw [wipe_length] at hl
        rw [List.getElem?_eq_getElem hl]
        rfl
      · rw [List.getElem?_eq_none (by simpa using hl)]
        rw [wipe_length] at hl
        rw [List.getElem?_eq_none (by simpa using hl)]
        rfl
    · rw [List.getElem?_set_ne hv, wipe_at σ vs i]
      have : (i ∈ v :: vs) ↔ i ∈ vs := by simp [Ne.symm hv]
      simp only [this]
theorem wipeS_at (ss : List Sl) : ∀ (vs : List Nat) (i : Nat), (wipeS ss vs)[i]? = if i ∈ vs then (ss[i]?).map fun _ => .no else ss[i]?
  | [], i => by simp [wipeS]
  | v :: vs, i => by
    unfold wipeS
    by_cases hv : v = i
    · subst hv
      rw [if_pos List.mem_cons_self]
      by_cases hl : v < (wipeS ss vs).length
      · rw [List.getElem?_set_self hl]
        rw [wipeS_length] at hl
        rw [List.getElem?_eq_getElem hl]
        rfl
      · rw [List.getElem?_eq_none (by simpa using hl)]
        rw [wipeS_length] at hl
        rw [List.getElem?_eq_none (by simpa using hl)]
        rfl
    · rw [List.getElem?_set_ne hv, wipeS_at ss vs i]
      have : (i ∈ v :: vs) ↔ i ∈ vs := by simp [Ne.symm hv]
      simp only [this]
theorem wipe_same {σ σ' : St} {ss ss' : List Sl} {vs : List Nat} (h : Out0 vs (wipe σ vs) σ' ss ss') : wipe σ' vs = wipe σ vs := by
  refine List.ext_getElem? fun i => ?_
  rw [wipe_at, wipe_at]
  obtain ⟨h1, _, h3⟩ := h
  by_cases hi : i ∈ vs
  · rw [if_pos hi, if_pos hi]
    have hl : σ'.length = σ.length := by rw [h1, wipe_length]
    by_cases hb : i < σ.length
    · rw [List.getElem?_eq_getElem (by rw [hl]; exact hb), List.getElem?_eq_getElem hb]
      all_goals rfl
    · rw [List.getElem?_eq_none (by rw [hl]; omega), List.getElem?_eq_none (by omega)]
      all_goals rfl
  · rw [if_neg hi, if_neg hi, (h3 i hi).1, wipe_at, if_neg hi]
/-- none of these slots is an own list -/
def noOwn (ss : List Sl) : List Nat → Bool
  | [] => true
  | v :: vs => (match ss[v]? with
    | some (.own _) => false
    | _ => true) && noOwn ss vs
theorem noOwn_at {ss : List Sl} {ds : List PyData} : ∀ {vs : List Nat} {i : Nat}, noOwn ss vs = true → i ∈ vs → ss[i]? = some (.own ds) → False
  | v :: vs, i, h, hi, e => by
    unfold noOwn at h
    rw [Bool.and_eq_true] at h
    rcases List.mem_cons.mp hi with z | z
    · subst z
      rw [e] at h
      exact absurd h.1 (by simp)
    · exact noOwn_at h.2 z e
theorem own_wipe {vs : List Nat} {a : Addr} (h : Own (wipe σ vs) (wipeS ss vs) a) : Own σ ss a := by
  obtain ⟨i, ds, h1, h2⟩ := h
  rw [wipeS_at] at h1
  rw [wipe_at] at h2
  by_cases hi : i ∈ vs
  · rw [if_pos hi] at h1
    cases e : ss[i]? with
    | none => rw [e] at h1; cases h1
    | some s => rw [e] at h1; cases h1
  · rw [if_neg hi] at h1 h2
    exact ⟨i, ds, h1, h2⟩
theorem own_unwipe {vs : List Nat} {a : Addr} (hn : noOwn ss vs = true) (h : Own σ ss a) : Own (wipe σ vs) (wipeS ss vs) a := by
  obtain ⟨i, ds, h1, h2⟩ := h
  have hi : i ∉ vs := fun z => noOwn_at hn z h1
  exact ⟨i, ds, by rw [wipeS_at, if_neg hi]; exact h1, by rw [wipe_at, if_neg hi]; exact h2⟩
theorem ER.wipe (I : ER P M r σ H ss rw) (vs : List Nat) : ER P M r (L2.wipe σ vs) H (wipeS ss vs) rw := by
  have sub : Same (hdn (Msk M r σ ss) H) (hdn (Msk M r (L2.wipe σ vs) (wipeS ss vs)) H) := mk_sub (msk_sub fun a z => own_wipe z)
  have back : ∀ {i : Nat} {s : Sl}, (wipeS ss vs)[i]? = some s → s ≠ .no → i ∉ vs ∧ ss[i]? = some s := fun {i s} h hs => by
    rw [wipeS_at] at h
    by_cases hi : i ∈ vs
    · rw [if_pos hi] at h
      cases e : ss[i]? with
      | none => rw [e] at h; cases h
      | some t => rw [e] at h; cases h; exact absurd rfl hs
    · rw [if_neg hi] at h
      exact ⟨hi, h⟩
  refine ⟨by rw [wipe_length, wipeS_length]; exact I.len, fun j y h => ?_, fun j ds h => ?_, fun j h => ?_, fun a h => ?_, I.m0, fun j k a ds es h1 h2 h3 h4 => ?_⟩
  · obtain ⟨n, h⟩ := back h (by simp)
    obtain ⟨u, h1, h2⟩ := I.sl j y h
    exact ⟨u, by rw [wipe_at, if_neg n]; exact h1, VR.mono sub h2⟩
  · obtain ⟨n, h⟩ := back h (by simp)
    obtain ⟨a, us, h1, h2, h3, h4⟩ := I.ow j ds h
    exact ⟨a, us, by rw [wipe_at, if_neg n]; exact h1, h2, drAll_mono sub _ _ h3, h4⟩
  · obtain ⟨n, h⟩ := back h (by simp)
    obtain ⟨a, h1, h2⟩ := I.rs j h
    exact ⟨a, h1, by rw [wipe_at, if_neg n]; exact h2⟩
  · obtain ⟨h1, sa, h2, h3⟩ := I.rk a h
    exact ⟨h1, sa, h2, sub.seq h3⟩
  · obtain ⟨n1, h1⟩ := back h1 (by simp)
    obtain ⟨n2, h2⟩ := back h2 (by simp)
    rw [wipe_at, if_neg n1] at h3
    rw [wipe_at, if_neg n2] at h4
    exact I.inj j k a ds es h1 h2 h3 h4
theorem ER.hide (I : ER P M r σ H ss rw) {D : Addr} {o : HO} (hD : H D = none) : ER P (fun a => M a ∨ a = D) r σ (upd H D o) ss rw := I.hideS (upd_same' hD) hD (by rw [upd_same]; simp)
/-- an object that is hidden changes -/
theorem ER.hid (I : ER P M r σ H ss rw) {D : Addr} {o : HO} (hM : M D) : ER P M r σ (upd H D o) ss rw := by
  have sub : Same (hdn (Msk M r σ ss) H) (hdn (Msk M r σ ss) (upd H D o)) := mk_same fun b u n h => by
    have nb : b ≠ D := fun z => n (.inl (by rw [z]; exact hM))
    exact ⟨n, by rw [upd_ne nb]; exact h⟩
  refine ⟨I.len, fun j y h => ?_, fun j ds h => ?_, I.rs, fun a h => ?_, fun a h => ?_, I.inj⟩
  · obtain ⟨u, h1, h2⟩ := I.sl j y h
    exact ⟨u, h1, VR.mono sub h2⟩
  · obtain ⟨a, us, h1, h2, h3, h4, h5⟩ := I.ow j ds h
    have na : a ≠ D := fun z => h4 (by rw [z]; exact hM)
    exact ⟨a, us, h1, by rw [upd_ne na]; exact h2, drAll_mono sub _ _ h3, h4, h5⟩
  · obtain ⟨h1, sa, h2, h3⟩ := I.rk a h
    have na : a ≠ D := fun z => h1 (by rw [z]; exact hM)
    exact ⟨h1, sa, by rw [upd_ne na]; exact h2, sub.seq h3⟩
  · by_cases z : a = D
    · subst z; rw [upd_same]; simp
    · rw [upd_ne z]; exact I.m0 a h
/-- the frame ahead, the row behind; what the mask hides may have changed -/
theorem ER.back (I : ER P M r σ H ss rw) {H' : Hp} {rw' : Ro} (k : ∀ b o, H b = some o → r ≠ some b → ¬ M b → H' b = some o) (km : ∀ a, M a → H' a ≠ none)
    (hr : ∀ a, r = some a → ∃ sa, H' a = some (.lst [.ref sa, .int rw'.1, .int rw'.2]) ∧ SqL P.K (hdn (Msk M r σ ss) H') sa (P.ns.map V.int)) : ER P M r σ H' ss rw' := by
  have sub : Same (hdn (Msk M r σ ss) H) (hdn (Msk M r σ ss) H') := mk_same fun b o n e => ⟨n, k b o e (fun z => n (.inr (.inl z))) fun z => n (.inl z)⟩
  refine ⟨I.len, fun j y h => ?_, fun j ds h => ?_, I.rs, fun a h => ⟨(I.rk a h).1, hr a h⟩, km, I.inj⟩
  · obtain ⟨u, h1, h2⟩ := I.sl j y h
    exact ⟨u, h1, VR.mono sub h2⟩
  · obtain ⟨a, us, h1, h2, h3, h4, h5⟩ := I.ow j ds h
    exact ⟨a, us, h1, k _ _ h2 h5 h4, drAll_mono sub _ _ h3, h4, h5⟩
theorem KeepR.live (k : KeepR r H H') (I : ER P M r σ H ss rw) : ∀ a, M a → H' a ≠ none := fun a h => by
  have q := I.m0 a h
  cases z : H a with
  | none => exact absurd z q
  | some o =>
    by_cases hra : r = some a
    · exact absurd h (I.rk a hra).1
    · rw [k a o z hra]; simp
end
/-- the turns of a comprehension: from the slots ss (its own forgotten) -/
def lcGo (g : PyData → List Sl → Option (List Sl)) (tt : Mx Bool) (te : Mx Vl) (ss : List Sl) : List PyData → Ro → Option (List PyData × Ro)
  | [], rw => some ([], rw)
  | x :: xs, rw => match g x ss with
    | none => none
    | some ss1 => match tt ss1 rw with
      | none => none
      | some (true, rw1) => (match te ss1 rw1 with
        | some (.dat y, rw2) => (match lcGo g tt te ss xs rw2 with
          | some (ys, rw3) => some (y :: ys, rw3)
          | none => none)
        | _ => none)
      | some (false, rw1) => lcGo g tt te ss xs rw1
def mLc (vs : List Nat) (mi : Mx (List PyData)) (g : PyData → List Sl → Option (List Sl)) (tt : Mx Bool) (te : Mx Vl) : Mx (List PyData) := fun ss rw => if noOwn ss vs = true then
    (match mi ss rw with
    | some (xs, rw1) => if xs.length ≤ 100000 then lcGo g tt te (wipeS ss vs) xs rw1 else none
    | none => none)
  else none
def mYes : Mx Bool := pur true
theorem lcGo_len {g : PyData → List Sl → Option (List Sl)} {tt : Mx Bool} {te : Mx Vl} {ss : List Sl} : ∀ {xs ys : List PyData} {rw rw' : Ro}, lcGo g tt te ss xs rw = some (ys, rw') → ys.length ≤ xs.length
  | [], ys, rw, rw', h => by
    unfold lcGo at h
    cases h
    exact Nat.le_refl _
  | x :: xs, ys, rw, rw', h => by
    unfold lcGo at h
    split at h
    next => cases h
    next ss1 e1 =>
      split at h
      next => cases h
      next rw1 e2 =>
        split at h
        next y rw2 e3 =>
          split at h
          next zs rw3 e4 =>
            cases h
            have := lcGo_len e4
            simp only [List.length_cons]
            omega
          next => cases h
        next => cases h
      next rw1 e2 =>
        have := lcGo_len h
        simp only [List.length_cons]
        omega
section
variable {P : Pm} {mi : Mx (List PyData)} {g : PyData → List Sl → Option (List Sl)} {tt : Mx Bool} {te : Mx Vl} {t : TG} {vs : List Nat}
/-- the reading of a comprehension -/
theorem tL_lc (hg : GOk P t g vs) : ∀ σ H Q, tL P (mLc vs mi g tt te) σ H Q → tLc (tI P mi) t (tT P tt) (tE P te) vs σ H Q := by
  rintro σ H Q ⟨M, r, ss, rw, ds, rw', I, e, q⟩
  unfold mLc at e
  split at e
  next hn =>
    split at e
    next xs rw1 e1 =>
      split at e
      next hl =>
        refine ⟨M, r, ss, rw, xs, rw1, I, e1, fun J H1 k1 I1 wk => fun D hD => ?_⟩
        have hD0 : H D = none := by
          cases z : H D with
          | none => rfl
          | some o =>
            by_cases hr : r = some D
            · obtain ⟨_, sa, e, _⟩ := I1.rk D hr
              rw [hD] at e; cases e
            · rw [k1 D o z hr] at hD; cases hD
        -- the mask within
        let M' : Addr → Prop := fun a => M a ∨ a = D
        have IM : ER P M' r (wipe σ vs) (upd H1 D (.lst [])) (wipeS ss vs) rw1 := (I1.hide hD).wipe vs
        -- the turns: done (acc), left (xs.drop i)
        let Pv : Nat → Hp → Prop := fun i H2 => ∃ (acc : List PyData) (us : List V) (ys : List PyData) (rw2 : Ro), H2 D = some (.lst us) ∧ acc.length ≤ i ∧ ER P M' r (wipe σ vs) H2 (wipeS ss vs) rw2 ∧
          DRAll P.K (hdn (Msk M' r (wipe σ vs) (wipeS ss vs)) H2) us acc ∧ lcGo g tt te (wipeS ss vs) (xs.drop i) rw2 = some (ys, rw') ∧ ds = acc ++ ys ∧ KeepR r H1 H2
        have al : ∀ {H2 : Hp}, KeepR r H1 H2 → (∀ a, r = some a → H2 a ≠ none) → ∀ a, Msk M r σ ss a → H2 a ≠ none := fun {H2} k hr a z => by
          by_cases hra : r = some a
          · exact hr a hra
          · have z1 := I1.alloc a z
            cases y : H1 a with
            | none => exact absurd y z1
            | some o => rw [k a o y hra]; simp
        have W : Walk J xs.length (fun H2 => KeepR r H1 H2 ∧ ∀ a, r = some a → H2 a ≠ none) (fun i H2 x H3 => Same H2 H3 ∧ ∃ d, xs[i]? = some d ∧ ∀ S1, Same (hdn (Msk M r σ ss) H1) (hdn S1 H2) → (∀ a, S1 a → H2 a ≠ none) → DR P.K (hdn S1 H3) x d) := by
          refine ⟨fun i H2 hi h => ((wk _ H2 h.1.msk (al h.1 h.2)).1 i hi).1, fun H2 h => (wk _ H2 h.1.msk (al h.1 h.2)).2, fun i H2 x H3 hi h y => ?_⟩
          obtain ⟨s, d, h1, h2⟩ := ((wk _ H2 h.1.msk (al h.1 h.2)).1 i hi).2 x H3 y
          refine ⟨s, d, h1, fun S1 s1 a1 => ?_⟩
          obtain ⟨_, d', h1', h2'⟩ := ((wk S1 H2 s1 a1).1 i hi).2 x H3 y
          rw [h1] at h1'
          cases h1'
          exact h2'
        refine lc_it W Pv ⟨[], [], ds, rw1, upd_same, Nat.le_refl _, IM, .nil, e, rfl, KeepR.of (upd_same' hD)⟩ (fun i H2 _ p => by
          obtain ⟨acc, us, ys, rw2, _, _, I2, _, _, _, k⟩ := p
          exact ⟨k, fun a h => by obtain ⟨_, sa, e, _⟩ := I2.rk a h; rw [e]; simp⟩) ?_ ?_
        · rintro i x H2 H3 hi ⟨acc, us, ys, rw2, hus, hacc, I2, dr, e2, eds, k2⟩ ⟨s3, d, hd, hx⟩
          have sub : Same (hdn (Msk M r σ ss) H1) (hdn (Msk M' r (wipe σ vs) (wipeS ss vs)) H2) := mk_same fun b o n h => by
            have nb : b ≠ D := ne_of_none h hD
            refine ⟨fun z => ?_, k2 b o h fun z => n (.inr (.inl z))⟩
            rcases z with (z | z) | z | z
            · exact n (.inl z)
            · exact nb z
            · exact n (.inr (.inl z))
            · exact n (.inr (.inr (own_wipe z)))
          have hx' := hx _ sub I2.alloc
          have I3 := I2.grow s3
          rw [List.drop_eq_getElem_cons hi] at e2
          have ed : xs[i] = d := by
            rw [List.getElem?_eq_getElem hi] at hd
            exact Option.some.inj hd
          rw [ed] at e2
          unfold lcGo at e2
          split at e2
          next => cases e2
          next ss1 g1 =>
            refine hg M' r (wipe σ vs) H3 (wipeS ss vs) rw2 x d ss1 _ I3 hx' g1 fun σ1 o1 J1 w1 => ⟨wipe_same o1, ?_⟩
            have wi := wipe_same o1
            have subw : ∀ a, Msk M' r (wipe σ vs) (wipeS ss vs) a → Msk M' r σ1 ss1 a := fun a z => by
              rcases z with z | z | z
              · exact .inl z
              · exact .inr (.inl z)
              · obtain ⟨j, es, z1, z2⟩ := z
                have hj : j ∉ vs := fun y => by
                  rw [wipeS_at, if_pos y] at z1
                  cases q : ss[j]? with
                  | none => rw [q] at z1; cases z1
                  | some t => rw [q] at z1; cases z1
                exact .inr (.inr ⟨j, es, by rw [(o1.2.2 j hj).2]; exact z1, by rw [(o1.2.2 j hj).1]; exact z2⟩)
            -- back from the turn's slots
            have backI : ∀ {H4 : Hp} {rw4 : Ro}, KeepR r H3 H4 → ER P M' r σ1 H4 ss1 rw4 → ER P M' r (wipe σ vs) H4 (wipeS ss vs) rw4 := fun {H4 rw4} k4 I4 => by
              refine I3.back (fun b o e n _ => k4 b o e n) (k4.live I3) fun a h => ?_
              obtain ⟨_, sa, h1, h2⟩ := I4.rk a h
              exact ⟨sa, h1, (mk_sub subw).seq h2⟩
            have rD : r ≠ some D := fun z => (I2.rk D z).1 (.inr rfl)
            split at e2
            next => cases e2
            next rw5 t1 =>
              refine ⟨M', r, ss1, rw2, true, rw5, J1, t1, fun H4 k4 I4 => ?_⟩
              refine L2.iteT ?_
              split at e2
              next y rw6 t2 =>
                split at e2
                next zs rw7 t3 =>
                  cases e2
                  refine ⟨M', r, ss1, rw5, _, rw6, I4, t2, fun v H5 k5 I5 hv => ?_⟩
                  have hD3 := s3 D _ hus
                  have hD5 : H5 D = some (.lst us) := k5 D _ (k4 D _ hD3 rD) rD
                  refine ⟨us, hD5, ?_, ?_⟩
                  · rw [DRAll.length dr]
                    exact sz_lt (by omega)
                  · have I6 := backI (k4.trans k5) I5
                    have I7 : ER P M' r (wipe σ vs) (upd H5 D (.lst (us ++ [v]))) (wipeS ss vs) rw6 := I6.hid (.inr rfl)
                    have sH : Same (hdn (Msk M' r (wipe σ vs) (wipeS ss vs)) H5) (hdn (Msk M' r (wipe σ vs) (wipeS ss vs)) (upd H5 D (.lst (us ++ [v])))) := mk_same fun b o n h => by
                      have nb : b ≠ D := fun z => n (.inl (.inr z))
                      exact ⟨n, by rw [upd_ne nb]; exact h⟩
                    have c5 : Same (hdn (Msk M' r (wipe σ vs) (wipeS ss vs)) H2) (hdn (Msk M' r (wipe σ vs) (wipeS ss vs)) H5) := KeepR.msk (((KeepR.of s3).trans k4).trans k5)
                    refine ⟨acc ++ [y], us ++ [v], zs, rw6, upd_same, by rw [List.length_append]; simp; omega, I7, ?_, t3, by rw [eds]; simp, ?_⟩
                    · refine DRAll.append (drAll_mono sH _ _ (drAll_mono c5 _ _ dr)) (.cons ?_ .nil)
                      refine dr_mono sH _ _ ?_
                      -- what the element is is seen outside, too
                      have hv' : DR P.K (hdn (Msk M' r σ1 ss1) H5) v y := hv
                      exact dr_mono (mk_sub subw) _ _ hv'
                    · intro b o hb hr
                      have nb : b ≠ D := ne_of_none hb hD
                      rw [upd_ne nb]
                      exact k5 b o (k4 b o (s3 b o (k2 b o hb hr)) hr) hr
                next => cases e2
              next => cases e2
            next rw5 t1 =>
              refine ⟨M', r, ss1, rw2, false, rw5, J1, t1, fun H4 k4 I4 => ?_⟩
              refine L2.iteF ?_
              have hD3 := s3 D _ hus
              have c4 : Same (hdn (Msk M' r (wipe σ vs) (wipeS ss vs)) H2) (hdn (Msk M' r (wipe σ vs) (wipeS ss vs)) H4) := KeepR.msk ((KeepR.of s3).trans k4)
              exact ⟨acc, us, ys, rw5, k4 D _ hD3 rD, by omega, backI k4 I4, drAll_mono c4 _ _ dr, e2, eds, fun b o hb hr => k4 b o (s3 b o (k2 b o hb hr)) hr⟩
        · rintro H2 ⟨acc, us, ys, rw2, hus, hacc, I2, dr, e2, eds, k2⟩
          rw [List.drop_length] at e2
          unfold lcGo at e2
          cases e2
          rw [List.append_nil] at eds
          subst eds
          have sub0 : ∀ a, Msk M' r σ ss a → Msk M' r (wipe σ vs) (wipeS ss vs) a := fun a z => by
            rcases z with z | z | z
            · exact .inl z
            · exact .inr (.inl z)
            · exact .inr (.inr (own_unwipe hn z))
          have IH : ER P M' r σ (upd H1 D (.lst [])) ss rw1 := I1.hide hD
          have IE : ER P M' r σ H2 ss rw' := by
            refine IH.back (fun b o hb n nm => ?_) I2.m0 fun a h => ?_
            · have nb : b ≠ D := fun z => nm (.inr z)
              rw [upd_ne nb] at hb
              exact k2 b o hb n
            · obtain ⟨_, sa, h1, h2⟩ := I2.rk a h
              exact ⟨sa, h1, (mk_sub sub0).seq h2⟩
          exact q D us H2 (k1.trans k2) IE hD0 hus (drAll_mono (mk_sub sub0) _ _ dr)
      next => cases e
    next => cases e
  next => cases e
end
end FL
/-! Comprehensions as expressions, calls, statements, defs. -/
namespace FL
open PySem L2

section
variable {P : Pm} {X : Cx}
theorem fl_lc {elt tg iter : Expr} {ifs : List Expr} {scope : Scope} {own : List (Str × Nat)} {pos : Pos} {mi : Mx (List PyData)} {g : PyData → List Sl → Option (List Sl)} {tt : Mx Bool} {te : Mx Vl} {t : TG} {vs : List Nat}
    (hi : FI X P tg iter mi) (ok : BlkOk X.N X.env.scope scope own) (hv : own.map (·.2) = vs) (hg : GOk P t g vs)
    (hgp : ∀ (s : Shared) (H : Hp) (C : Addr) (cl : List (Str × Addr)) (fp : List Addr), PG (X.blk s H scope (compEnvC scope cl C X.env) fp) tg t) (ht : ∀ (s : Shared) (H : Hp) (C : Addr) (cl : List (Str × Addr)) (fp : List Addr), PTs (X.blk s H scope (compEnvC scope cl C X.env) fp) ifs (tT P tt))
    (he : ∀ (s : Shared) (H : Hp) (C : Addr) (cl : List (Str × Addr)) (fp : List Addr), FE (X.blk s H scope (compEnvC scope cl C X.env) fp) P elt te) (hN : X.N.Nodup) (hc : X.calm = true := by rfl) (hs : ∀ x, foldedSetIterable iter X.env x = pure x := by intro _; rfl) :
    FL X P (.ListComp elt [⟨tg, iter, ifs, 0⟩] scope pos) (mLc vs mi g tt te) := by
  subst hv
  exact PE.imp (pe_lc hc hN hi ok hgp ht he hs) (tL_lc hg)
theorem fts_nil : PTs X [] (tT P mYes) := ⟨fun pins s σ H Q I h => by
  refine pts_nil.run pins s σ H Q I ?_
  obtain ⟨M, r0, ss, rw, z, rw', I, e, q⟩ := h
  obtain ⟨rfl, rfl⟩ := pur_some e
  exact q H (KeepR.refl _ _) I⟩
theorem fts_one {c : Expr} {m : Mx Bool} (h : FT X P c m) : PTs X [c] (tT P m) := pts_one h
/-- name = [..]: as it is read, to be stored -/
theorem st_lc {i : Nat} {y : Str} {py : Pos} {elt tg iter : Expr} {ifs : List Expr} {scope : Scope} {own : List (Str × Nat)} {pos spos : Pos} {mi : Mx (List PyData)} {g : PyData → List Sl → Option (List Sl)} {tt : Mx Bool} {te : Mx Vl} {t : TG} {vs : List Nat}
    (hy : X.N[i]? = some y) (hyl : X.env.scope.names.lookup y = some .local) (hsw : swapsWith (.ListComp elt [⟨tg, iter, ifs, 0⟩] scope pos) (some (.Name y py)) spos.line X.env = pure true)
    (hi : FI X P tg iter mi) (ok : BlkOk X.N X.env.scope scope own) (hv : own.map (·.2) = vs) (hg : GOk P t g vs)
    (hgp : ∀ (s : Shared) (H : Hp) (C : Addr) (cl : List (Str × Addr)) (fp : List Addr), PG (X.blk s H scope (compEnvC scope cl C X.env) fp) tg t) (ht : ∀ (s : Shared) (H : Hp) (C : Addr) (cl : List (Str × Addr)) (fp : List Addr), PTs (X.blk s H scope (compEnvC scope cl C X.env) fp) ifs (tT P tt))
    (he : ∀ (s : Shared) (H : Hp) (C : Addr) (cl : List (Str × Addr)) (fp : List Addr), FE (X.blk s H scope (compEnvC scope cl C X.env) fp) P elt te) (hN : X.N.Nodup) (hc : X.calm = true := by rfl) (hs : ∀ x, foldedSetIterable iter X.env x = pure x := by intro _; rfl) :
    PS X (.Assign [.Name y py] (.ListComp elt [⟨tg, iter, ifs, 0⟩] scope pos) spos) (tAsg (tL P (mLc vs mi g tt te)) (gName i)) := by
  subst hv
  exact PS.imp (ps_setLc hc hN hy hyl hsw hi ok hgp ht he hs) fun D σ H h => tL_lc hg σ H _ h
end

/-! ### exceptions -/
/-- an exception of the class that P.ex tells, with its fields -/
structure Exn where
  c : Nat
  fs : List (Str × PyData)
inductive Res where
  | ok (x : Vl)
  | er (e : Exn)
/-- what an exception is: fx tells the classes' places -/
def ExR (P : Pm) (fx : Nat → Addr) (x : Exn) (cls : Value) (d : Option Addr) (H : Hp) : Prop := cls = .ref (fx x.c) ∧
  ((x.fs = [] ∧ d = none) ∨ ∃ dd vs, x.fs ≠ [] ∧ d = some dd ∧ H dd = some (.xd vs) ∧ Paired (fun (p : Str × V) (q : Str × PyData) => p.1 = q.1 ∧ DR P.K H p.2 q.2) vs x.fs)

/-! ### what stands behind a statement -/
inductive Ou where
  | nx (ss : List Sl) (rw : Ro)
  | bk (ss : List Sl) (rw : Ro)
  | ct (ss : List Sl) (rw : Ro)
  | rt (x : Vl) (rw : Ro)
  /-- a list of one's own is handed back -/
  | rl (ds : List PyData) (rw : Ro)
  | er (x : Exn) (ss : List Sl) (rw : Ro)
abbrev Sx := List Sl → Ro → Option Ou
def KeepO (r : Option Addr) (σ : St) (H : Hp) (ss : List Sl) (H' : Hp) : Prop := ∀ b o, H b = some o → r ≠ some b → ¬ Own σ ss b → H' b = some o
structure Gr (r : Option Addr) (σ : St) (H : Hp) (ss : List Sl) (σ' : St) (H' : Hp) (ss' : List Sl) : Prop where
  keep : KeepO r σ H ss H'
  own : ∀ a, Own σ' ss' a → Own σ ss a ∨ H a = none
  /-- what was there is there -/
  live : ∀ b, H b ≠ none → H' b ≠ none
def RowAt (P : Pm) (M : Addr → Prop) (r : Option Addr) (H : Hp) (rw : Ro) : Prop := ∀ a, r = some a → ∃ sa, H a = some (.lst [.ref sa, .int rw.1, .int rw.2]) ∧ SqL P.K (hdn (fun a => M a ∨ r = some a) H) sa (P.ns.map V.int)
def OuP (P : Pm) (fx : Nat → Addr) (W : WX) (M : Addr → Prop) (r : Option Addr) (σ : St) (H : Hp) (ss : List Sl) (D : Ends) : Ou → Prop
  | .nx ss' rw' => ∀ σ' H', Gr r σ H ss σ' H' ss' → ER P M r σ' H' ss' rw' → D.nx σ' H'
  | .bk ss' rw' => ∀ σ' H', Gr r σ H ss σ' H' ss' → ER P M r σ' H' ss' rw' → D.bk σ' H'
  | .ct ss' rw' => ∀ σ' H', Gr r σ H ss σ' H' ss' → ER P M r σ' H' ss' rw' → D.ct σ' H'
  | .rt x rw' => ∀ v H', KeepO r σ H ss H' → (∀ b, H b ≠ none → H' b ≠ none) → RowAt P M r H' rw' → VR P (hdn (fun a => M a ∨ r = some a) H') v x → D.rt v H'
  | .rl ds rw' => ∀ p vs H', KeepO r σ H ss H' → (∀ b, H b ≠ none → H' b ≠ none) → RowAt P M r H' rw' → (Own σ ss p ∨ H p = none) → ¬ M p → r ≠ some p → H' p = some (.lst vs) → DRAll P.K (hdn (fun a => (M a ∨ r = some a) ∨ a = p) H') vs ds → D.rt (.ref p) H'
  | .er x ss' rw' => ∀ σ' cls d H', Gr r σ H ss σ' H' ss' → ER P M r σ' H' ss' rw' → ExR P fx x cls d H' → W cls d σ' H'
def tS (P : Pm) (fx : Nat → Addr) (W : WX) (m : Sx) : TS := fun D σ H => ∃ M r ss rw o, ER P M r σ H ss rw ∧ m ss rw = some o ∧ OuP P fx W M r σ H ss D o
abbrev FS (X : Cx) (P : Pm) (fx : Nat → Addr) (W : WX) (st : Stmt) (m : Sx) : Prop := PS X st (tS P fx W m)
abbrev FSs (X : Cx) (P : Pm) (fx : Nat → Addr) (W : WX) (sts : List Stmt) (m : Sx) : Prop := PSs X sts (tS P fx W m)

section
variable {P : Pm} {X : Cx} {fx : Nat → Addr} {W : WX} {M : Addr → Prop} {r : Option Addr} {σ σ1 σ2 : St} {H H1 H2 : Hp} {ss ss1 ss2 : List Sl} {rw rw1 : Ro}
theorem Gr.refl : Gr r σ H ss σ H ss := ⟨fun _ _ e _ _ => e, fun _ z => .inl z, fun _ z => z⟩
theorem KeepO.after (g : Gr r σ H ss σ1 H1 ss1) {H2 : Hp} (k : KeepO r σ1 H1 ss1 H2) : KeepO r σ H ss H2 := fun b o e n no => by
  refine k b o (g.keep b o e n no) n fun z => ?_
  rcases g.own b z with z | z
  · exact no z
  · rw [z] at e; cases e
theorem Gr.trans (a : Gr r σ H ss σ1 H1 ss1) (b : Gr r σ1 H1 ss1 σ2 H2 ss2) : Gr r σ H ss σ2 H2 ss2 := ⟨KeepO.after a b.keep, fun x z => by
  rcases b.own x z with z | z
  · exact a.own x z
  · refine .inr ?_
    cases q : H x with
    | none => rfl
    | some o => exact absurd z (a.live x (by rw [q]; simp)), fun x z => b.live x (a.live x z)⟩
theorem Gr.ofR (k : KeepR r H H1) (I1 : ER P M r σ H1 ss rw1) : Gr r σ H ss σ H1 ss := ⟨fun b o e n _ => k b o e n, fun _ z => .inl z, fun b z => by
  by_cases hr : r = some b
  · obtain ⟨_, sa, e, _⟩ := I1.rk b hr
    rw [e]; simp
  · cases q : H b with
    | none => exact absurd q z
    | some o => rw [k b o q hr]; simp⟩
theorem OuP.after {D : Ends} (g : Gr r σ H ss σ1 H1 ss1) : ∀ {o : Ou}, OuP P fx W M r σ H ss D o → OuP P fx W M r σ1 H1 ss1 D o
  | .nx ss' rw', h => fun σ' H' g' I' => h σ' H' (g.trans g') I'
  | .bk ss' rw', h => fun σ' H' g' I' => h σ' H' (g.trans g') I'
  | .ct ss' rw', h => fun σ' H' g' I' => h σ' H' (g.trans g') I'
  | .rt x rw', h => fun v H' k l ra hv => h v H' (KeepO.after g k) (fun b z => l b (g.live b z)) ra hv
  | .rl ds rw', h => fun p vs H' k l ra ho hm hr hp hv => h p vs H' (KeepO.after g k) (fun b z => l b (g.live b z)) ra (by
      rcases ho with ho | ho
      · exact g.own p ho
      · refine .inr ?_
        cases q : H p with
        | none => rfl
        | some o => exact absurd ho (g.live p (by rw [q]; simp))) hm hr hp hv
  | .er x ss' rw', h => fun σ' cls d H' g' I' hx => h σ' cls d H' (g.trans g') I' hx
theorem ER.rowAt (I : ER P M r σ H ss rw) : RowAt P M r H rw := fun a h => by
  obtain ⟨_, sa, h1, h2⟩ := I.rk a h
  refine ⟨sa, h1, (mk_sub fun b z => ?_).seq h2⟩
  rcases z with z | z
  · exact .inl z
  · exact .inr (.inl z)
theorem msk_out : ∀ a, (M a ∨ r = some a) → Msk M r σ ss a := fun a z => by
  rcases z with z | z
  · exact .inl z
  · exact .inr (.inl z)

/-! ### blocks -/
def sNx : Sx := fun ss rw => some (.nx ss rw)
def sSeq (a b : Sx) : Sx := fun ss rw => match a ss rw with
  | some (.nx ss1 rw1) => b ss1 rw1
  | o => o
theorem tS_seq {a b : Sx} : ∀ D σ H, tS P fx W (sSeq a b) D σ H → tSeq (tS P fx W a) (tS P fx W b) D σ H := by
  rintro D σ H ⟨M, r, ss, rw, o, I, e, q⟩
  unfold sSeq at e
  split at e
  next ss1 rw1 e1 =>
    exact ⟨M, r, ss, rw, _, I, e1, fun σ1 H1 g1 I1 => ⟨M, r, ss1, rw1, o, I1, e, OuP.after g1 q⟩⟩
  next hne =>
    refine ⟨M, r, ss, rw, o, I, e, ?_⟩
    cases o with
    | nx ss1 rw1 => exact absurd e (hne ss1 rw1)
    | bk ss1 rw1 => exact q
    | ct ss1 rw1 => exact q
    | rt x rw1 => exact q
    | rl ds rw1 => exact q
    | er x ss1 rw1 => exact q
theorem fss_nil : FSs X P fx W [] sNx := PSs.imp pss_nil fun D σ H ⟨M, r, ss, rw, o, I, e, q⟩ => by
  cases e
  exact q σ H Gr.refl I
theorem fss_cons {st : Stmt} {rest : List Stmt} {a b : Sx} (h1 : FS X P fx W st a) (h2 : FSs X P fx W rest b) : FSs X P fx W (st :: rest) (sSeq a b) := PSs.imp (pss_cons h1 h2) tS_seq
theorem fss_one {st : Stmt} {a : Sx} (h1 : FS X P fx W st a) : FSs X P fx W [st] a := pss_one h1
theorem fs_pass {pos : Pos} : FS X P fx W (.Pass pos) sNx := PS.imp ps_pass fun D σ H ⟨M, r, ss, rw, o, I, e, q⟩ => by
  cases e
  exact q σ H Gr.refl I
def sBk : Sx := fun ss rw => some (.bk ss rw)
def sCt : Sx := fun ss rw => some (.ct ss rw)
theorem fs_break {pos : Pos} : FS X P fx W (.Break pos) sBk := PS.imp ps_break fun D σ H ⟨M, r, ss, rw, o, I, e, q⟩ => by
  cases e
  exact q σ H Gr.refl I
theorem fs_continue {pos : Pos} : FS X P fx W (.Continue pos) sCt := PS.imp ps_continue fun D σ H ⟨M, r, ss, rw, o, I, e, q⟩ => by
  cases e
  exact q σ H Gr.refl I
/-- a place that is never come to -/
def sNo : Sx := fun _ _ => none
theorem fs_no {st : Stmt} : FS X P fx W st sNo := PS.imp ps_never fun D σ H ⟨M, r, ss, rw, o, I, e, q⟩ => by cases e
theorem fss_no {st : List Stmt} : FSs X P fx W st sNo := PSs.imp pss_never fun D σ H ⟨M, r, ss, rw, o, I, e, q⟩ => by cases e

/-! ### stores -/
variable {m : Mx Vl} {ml : Mx (List PyData)} {i : Nat}
def sSet (i : Nat) (m : Mx Vl) : Sx := fun ss rw => match m ss rw with
  | some (x, rw1) => (match putS i (.vl x) ss with
    | some ss1 => some (.nx ss1 rw1)
    | none => none)
  | none => none
theorem own_setv {i : Nat} {v : V} {x : Vl} {a : Addr} (h : Own (σ.set i (some v)) (ss.set i (.vl x)) a) : Own σ ss a := own_set h
theorem Gr.setv {i : Nat} {v : V} {x : Vl} : Gr r σ H ss (σ.set i (some v)) H (ss.set i (.vl x)) := ⟨fun _ _ e _ _ => e, fun _ z => .inl (own_set z), fun _ z => z⟩
theorem tS_set {t : TE} (h : ∀ σ H Q, tE P m σ H Q → t σ H Q) : ∀ D σ H, tS P fx W (sSet i m) D σ H → tAsg t (gName i) D σ H := by
  rintro D σ H ⟨M, r, ss, rw, o, I, e, q⟩
  unfold sSet at e
  split at e
  next x rw1 e1 =>
    unfold putS at e
    split at e
    next ss1 e2 =>
      split at e2
      next hi =>
        cases e2
        cases e
        refine h σ H _ ⟨M, r, ss, rw, x, rw1, I, e1, fun v H1 k1 I1 hv => ?_⟩
        exact q _ H1 ((Gr.ofR k1 I1).trans Gr.setv) (I1.setv hi hv)
      next => cases e2
    next => cases e
  next => cases e
theorem fs_set {x : Str} {e : Expr} {pos pos' : Pos} (hi : X.N[i]? = some x) (hx : Loc X.env.scope x) (he : FE X P e m) (hN : X.N.Nodup) (hf : X.fn x = true ∨ X.env.scope.names.lookup x = some .local) (hs : swapsWith e (some (.Name x pos')) pos.line X.env = pure false := by rfl) :
    FS X P fx W (.Assign [.Name x pos'] e pos) (sSet i m) := PS.imp (ps_set hN hi hx he hs hf) (tS_set fun _ _ _ h => h)
/-- a list of one's own -/
def sOwn (i : Nat) (m : Mx (List PyData)) : Sx := fun ss rw => match m ss rw with
  | some (ds, rw1) => (match putS i (.own ds) ss with
    | some ss1 => some (.nx ss1 rw1)
    | none => none)
  | none => none
theorem own_seto {i : Nat} {p : Addr} {ds : List PyData} {a : Addr} (hl : σ.length = ss.length) (h : Own (σ.set i (some (.ref p))) (ss.set i (.own ds)) a) : Own σ ss a ∨ a = p := by
  obtain ⟨j, es, h1, h2⟩ := h
  by_cases hj : i = j
  · subst hj
    by_cases hb : i < ss.length
    · rw [List.getElem?_set_self (by rw [hl]; exact hb)] at h2
      cases h2
      exact .inr rfl
    · rw [List.getElem?_eq_none (by simpa using hb)] at h1
      cases h1
  · rw [List.getElem?_set_ne hj] at h1 h2
    exact .inl ⟨j, es, h1, h2⟩
theorem ER.seto {p : Addr} (Ik : ER P (fun a => M a ∨ a = p) r σ H ss rw) {vs : List V} {ds : List PyData} (hi : i < ss.length) (hM : ¬ M p) (hp : H p = some (.lst vs))
    (hv : DRAll P.K (hdn (Msk (fun a => M a ∨ a = p) r σ ss) H) vs ds) : ER P M r (σ.set i (some (.ref p))) H (ss.set i (.own ds)) rw := by
  have hr : r ≠ some p := fun z => (Ik.rk p z).1 (.inr rfl)
  have ho : ¬ Own σ ss p := fun ⟨j, es, h1, h2⟩ => by
    obtain ⟨a, us, g1, _, _, g4, _⟩ := Ik.ow j es h1
    rw [h2] at g1
    cases g1
    exact g4 (.inr rfl)
  -- what is seen without p is seen where p is one's own
  have sub : ∀ a, Msk M r (σ.set i (some (.ref p))) (ss.set i (.own ds)) a → Msk (fun a => M a ∨ a = p) r σ ss a := fun a z => by
    rcases z with z | z | z
    · exact .inl (.inl z)
    · exact .inr (.inl z)
    · rcases own_seto Ik.len z with z | z
      · exact .inr (.inr z)
      · exact .inl (.inr z)
  refine ⟨by rw [List.length_set, List.length_set]; exact Ik.len, fun j y h => ?_, fun j es h => ?_, fun j h => ?_, fun a h => ?_, fun a h => Ik.m0 a (.inl h), fun j k a es fs h1 h2 h3 h4 => ?_⟩
  · by_cases hj : i = j
    · subst hj
      rw [List.getElem?_set_self hi] at h
      cases h
    · rw [List.getElem?_set_ne hj] at h ⊢
      obtain ⟨u, h1, h2⟩ := Ik.sl j y h
      exact ⟨u, h1, VR.mono (mk_sub sub) h2⟩
  · by_cases hj : i = j
    · subst hj
      rw [List.getElem?_set_self hi] at h
      cases h
      exact ⟨p, vs, List.getElem?_set_self (by rw [Ik.len]; exact hi), hp, drAll_mono (mk_sub sub) _ _ hv, hM, hr⟩
    · rw [List.getElem?_set_ne hj] at h ⊢
      obtain ⟨a, us, h1, h2, h3, h4, h5⟩ := Ik.ow j es h
      exact ⟨a, us, h1, h2, drAll_mono (mk_sub sub) _ _ h3, fun z => h4 (.inl z), h5⟩
  · by_cases hj : i = j
    · subst hj
      rw [List.getElem?_set_self hi] at h
      cases h
    · rw [List.getElem?_set_ne hj] at h ⊢
      exact Ik.rs j h
  · obtain ⟨h1, sa, h2, h3⟩ := Ik.rk a h
    exact ⟨fun z => h1 (.inl z), sa, h2, (mk_sub sub).seq h3⟩
  · have at_ : ∀ (l : Nat) (gs : List PyData), (ss.set i (.own ds))[l]? = some (.own gs) → (σ.set i (some (.ref p)))[l]? = some (some (.ref a)) → (l = i ∧ a = p) ∨ (l ≠ i ∧ ss[l]? = some (.own gs) ∧ σ[l]? = some (some (.ref a))) := fun l gs e1 e2 => by
      by_cases hl : i = l
      · subst hl
        rw [List.getElem?_set_self (by rw [Ik.len]; exact hi)] at e2
        cases e2
        exact .inl ⟨rfl, rfl⟩
      · rw [List.getElem?_set_ne hl] at e1 e2
        exact .inr ⟨Ne.symm hl, e1, e2⟩
    rcases at_ j es h1 h3 with ⟨rfl, rfl⟩ | ⟨n1, e1, e2⟩
    · rcases at_ k fs h2 h4 with ⟨rfl, _⟩ | ⟨n2, e3, e4⟩
      · rfl
      · exact absurd ⟨k, fs, e3, e4⟩ ho
    · rcases at_ k fs h2 h4 with ⟨_, rfl⟩ | ⟨n2, e3, e4⟩
      · exact absurd ⟨j, es, e1, e2⟩ ho
      · exact Ik.inj j k a es fs e1 e3 e2 e4
theorem tS_own {t : TE} (h : ∀ σ H Q, tL P ml σ H Q → t σ H Q) : ∀ D σ H, tS P fx W (sOwn i ml) D σ H → tAsg t (gName i) D σ H := by
  rintro D σ H ⟨M, r, ss, rw, o, I, e, q⟩
  unfold sOwn at e
  split at e
  next ds rw1 e1 =>
    unfold putS at e
    split at e
    next ss1 e2 =>
      split at e2
      next hi =>
        cases e2
        cases e
        refine h σ H _ ⟨M, r, ss, rw, ds, rw1, I, e1, fun p vs H1 k1 I1 hp hp1 hv => ?_⟩
        have hM : ¬ M p := fun z => I.m0 p z hp
        refine q _ H1 ⟨fun b o e n _ => k1 b o e n, fun a z => ?_, (Gr.ofR (ss := ss) k1 I1.unhide).live⟩ (I1.seto hi hM hp1 hv)
        rcases own_seto I.len z with z | z
        · exact .inl z
        · rw [z]
          exact .inr hp
      next => cases e2
    next => cases e
  next => cases e
end
end FL
/-! Own lists, if, for, while, return, calls, defs. -/
namespace FL
open PySem L2
section
variable {P : Pm} {X : Cx} {fx : Nat → Addr} {W : WX} {M : Addr → Prop} {r : Option Addr} {σ σ1 σ2 : St} {H H1 H2 : Hp} {ss ss1 ss2 : List Sl} {rw rw1 : Ro} {m : Mx Vl} {i : Nat}

/-! ### own lists -/
/-- an own list changes -/
theorem ER.owned (I : ER P M r σ H ss rw) {p : Addr} {us : List V} {ds es : List PyData} (hi : ss[i]? = some (.own ds)) (hs : σ[i]? = some (some (.ref p))) (hv : DRAll P.K (hdn (Msk M r σ ss) H) us es) :
    ER P M r σ (upd H p (.lst us)) (ss.set i (.own es)) rw ∧ Gr r σ H ss σ (upd H p (.lst us)) (ss.set i (.own es)) := by
  obtain ⟨p', vs, h1, hp, _, hM, hr⟩ := I.ow i ds hi
  rw [hs] at h1
  cases h1
  have hl : i < ss.length := (List.getElem?_eq_some_iff.mp hi).1
  have own_eq : ∀ a, Own σ (ss.set i (.own es)) a ↔ Own σ ss a := fun a => by
    constructor
    · rintro ⟨j, gs, h1, h2⟩
      by_cases hj : i = j
      · subst hj
        exact ⟨i, ds, hi, h2⟩
      · rw [List.getElem?_set_ne hj] at h1
        exact ⟨j, gs, h1, h2⟩
    · rintro ⟨j, gs, h1, h2⟩
      by_cases hj : i = j
      · subst hj
        exact ⟨i, es, List.getElem?_set_self hl, h2⟩
      · exact ⟨j, gs, by rw [List.getElem?_set_ne hj]; exact h1, h2⟩
  have po : Own σ ss p := ⟨i, ds, hi, hs⟩
  have sub : Same (hdn (Msk M r σ ss) H) (hdn (Msk M r σ (ss.set i (.own es))) (upd H p (.lst us))) := mk_same fun b o n h => by
    have nb : b ≠ p := fun z => n (.inr (.inr (by rw [z]; exact po)))
    refine ⟨fun z => ?_, by rw [upd_ne nb]; exact h⟩
    rcases z with z | z | z
    · exact n (.inl z)
    · exact n (.inr (.inl z))
    · exact n (.inr (.inr ((own_eq b).mp z)))
  refine ⟨⟨by rw [List.length_set]; exact I.len, fun j y h => ?_, fun j gs h => ?_, fun j h => ?_, fun a h => ?_, fun a h => ?_, fun j k a gs fs h1 h2 h3 h4 => ?_⟩, ⟨fun b o e n no => ?_, fun a z => .inl ((own_eq a).mp z), fun b z => ?_⟩⟩
  · by_cases hj : i = j
    · subst hj
      rw [List.getElem?_set_self hl] at h
      cases h
    · rw [List.getElem?_set_ne hj] at h
      obtain ⟨u, h1, h2⟩ := I.sl j y h
      exact ⟨u, h1, VR.mono sub h2⟩
  · by_cases hj : i = j
    · subst hj
      rw [List.getElem?_set_self hl] at h
      cases h
      exact ⟨p, us, hs, upd_same, drAll_mono sub _ _ hv, hM, hr⟩
    · rw [List.getElem?_set_ne hj] at h
      obtain ⟨a, ws, h1, h2, h3, h4⟩ := I.ow j gs h
      have na : a ≠ p := fun z => by
        subst z
        exact hj (I.inj i j a ds gs hi h hs h1)
      exact ⟨a, ws, h1, by rw [upd_ne na]; exact h2, drAll_mono sub _ _ h3, h4⟩
  · by_cases hj : i = j
    · subst hj
      rw [List.getElem?_set_self hl] at h
      cases h
    · rw [List.getElem?_set_ne hj] at h
      exact I.rs j h
  · obtain ⟨h1, sa, h2, h3⟩ := I.rk a h
    have na : a ≠ p := fun z => hr (by rw [← z]; exact h)
    exact ⟨h1, sa, by rw [upd_ne na]; exact h2, sub.seq h3⟩
  · by_cases z : a = p
    · subst z; rw [upd_same]; simp
    · rw [upd_ne z]; exact I.m0 a h
  · have at_ : ∀ (l : Nat) (ts : List PyData), (ss.set i (.own es))[l]? = some (.own ts) → ∃ ts', ss[l]? = some (.own ts') := fun l ts e1 => by
      by_cases hl' : i = l
      · subst hl'
        exact ⟨ds, hi⟩
      · rw [List.getElem?_set_ne hl'] at e1
        exact ⟨ts, e1⟩
    obtain ⟨g1, e1⟩ := at_ j gs h1
    obtain ⟨g2, e2⟩ := at_ k fs h2
    exact I.inj j k a g1 g2 e1 e2 h3 h4
  · have nb : b ≠ p := fun z => no (by rw [z]; exact po)
    rw [upd_ne nb]
    exact e
  · by_cases y : b = p
    · subst y; rw [upd_same]; simp
    · rw [upd_ne y]; exact z
/-- x.append(e), x an own list -/
def sApp (i : Nat) (m : Mx Vl) : Sx := fun ss rw => match ss[i]? with
  | some (.own ds) => (match m ss rw with
    | some (.dat d, rw1) => if ds.length < 100000 then some (.nx (ss.set i (.own (ds ++ [d]))) rw1) else none
    | _ => none)
  | _ => none
theorem fs_append {x : Str} {e : Expr} {p0 p1 p2 p3 : Pos} (hv : PE X (.Name x p0) (tVar i)) (he : FE X P e m) (hbase : attributeBase (.Name x p0) "append" X.env (eval (.Name x p0) X.env) = eval (.Name x p0) X.env := by rfl)
    (hfew : ((backTo p2 (starEach [e] X.env)).all (fun x => !x.1) && (backToKw p2 (keywordEach [] X.env)).all (fun x => x.1.isSome)
      && decide ([e].length + ([] : List Keyword).length + (if ([] : List Keyword).isEmpty then 0 else 1) < 30)) = true := by rfl)
    (hline : (p1.endLine == p2.line) = true := by rfl) (hs : starEach [e] X.env = (false, eval e X.env) :: starEach [] X.env := by rfl) (hplain : (backTo p2 (starEach [] X.env)).any (·.1) = false := by rfl)
    (hsw : swapsWith (.Call (.Attribute (.Name x p0) "append" p1) [e] [] p2) none p3.line X.env = pure false := by rfl) :
    FS X P fx W (.Expr (.Call (.Attribute (.Name x p0) "append" p1) [e] [] p2) p3) (sApp i m) := by
  refine PS.imp (ps_expr (pe_bm PySem.F.plainAttrs_list PySem.F.slot_list_append PySem.F.type_list_append mt_append hv (pa_cons he pa_nil hs) hbase hfew hline hs hplain) hsw) ?_
  rintro D σ H ⟨M, r, ss, rw, o, I, e, q⟩
  unfold sApp at e
  split at e
  next ds hi =>
    split at e
    next d rw1 e1 =>
      split at e
      next hl =>
        cases e
        obtain ⟨p, vs, h1, h2, h3, h4, h5⟩ := I.ow i ds hi
        refine ⟨_, h1, .inl ⟨rfl, vs, SqL.of h2⟩, M, r, ss, rw, _, rw1, I, e1, fun v H1 k1 I1 hv => ?_⟩
        obtain ⟨p', vs', g1, g2, g3, _⟩ := I1.ow i ds hi
        rw [h1] at g1
        cases g1
        refine ⟨p, vs', v, rfl, rfl, g2, by rw [DRAll.length g3]; exact sz_lt hl, ?_⟩
        obtain ⟨J, G⟩ := I1.owned hi h1 (DRAll.append g3 (.cons hv .nil))
        exact q _ _ ((Gr.ofR k1 I1).trans G) J
      next => cases e
    next => cases e
  next => cases e
/-- x.extend(e), x an own list -/
def sExt (i : Nat) (m : Mx Vl) : Sx := fun ss rw => match ss[i]? with
  | some (.own ds) => (match m ss rw with
    | some (.dat (.list es), rw1) => if ds.length + es.length ≤ 100000 then some (.nx (ss.set i (.own (ds ++ es))) rw1) else none
    | _ => none)
  | _ => none
theorem fs_extend {x : Str} {e : Expr} {p0 p1 p2 p3 : Pos} (hv : PE X (.Name x p0) (tVar i)) (he : FE X P e m) (hbase : attributeBase (.Name x p0) "extend" X.env (eval (.Name x p0) X.env) = eval (.Name x p0) X.env := by rfl)
    (hfew : ((backTo p2 (starEach [e] X.env)).all (fun x => !x.1) && (backToKw p2 (keywordEach [] X.env)).all (fun x => x.1.isSome)
      && decide ([e].length + ([] : List Keyword).length + (if ([] : List Keyword).isEmpty then 0 else 1) < 30)) = true := by rfl)
    (hline : (p1.endLine == p2.line) = true := by rfl) (hs : starEach [e] X.env = (false, eval e X.env) :: starEach [] X.env := by rfl) (hplain : (backTo p2 (starEach [] X.env)).any (·.1) = false := by rfl)
    (hsw : swapsWith (.Call (.Attribute (.Name x p0) "extend" p1) [e] [] p2) none p3.line X.env = pure false := by rfl) :
    FS X P fx W (.Expr (.Call (.Attribute (.Name x p0) "extend" p1) [e] [] p2) p3) (sExt i m) := by
  refine PS.imp (ps_expr (pe_bm PySem.F.plainAttrs_list PySem.F.slot_list_extend PySem.F.type_list_extend mt_extend hv (pa_cons he pa_nil hs) hbase hfew hline hs hplain) hsw) ?_
  rintro D σ H ⟨M, r, ss, rw, o, I, e, q⟩
  unfold sExt at e
  split at e
  next ds hi =>
    split at e
    next es rw1 e1 =>
      split at e
      next hl =>
        cases e
        obtain ⟨p, vs, h1, h2, h3, h4, h5⟩ := I.ow i ds hi
        refine ⟨_, h1, .inl ⟨rfl, vs, SqL.of h2⟩, M, r, ss, rw, _, rw1, I, e1, fun v H1 k1 I1 hv => ?_⟩
        obtain ⟨p', vs', g1, g2, g3, _⟩ := I1.ow i ds hi
        rw [h1] at g1
        cases g1
        obtain ⟨b, us, rfl, b1, b2⟩ := vr_lst hv
        refine ⟨p, b, vs', us, rfl, rfl, g2, mk_le _ H1 _ _ b1, by rw [DRAll.length g3, DRAll.length b2]; exact sz_of hl, ?_⟩
        obtain ⟨J, G⟩ := I1.owned hi h1 (DRAll.append g3 b2)
        exact q _ _ ((Gr.ofR k1 I1).trans G) J
      next => cases e
    next => cases e
  next => cases e
/-- x.clear() -/
def sClr (i : Nat) : Sx := fun ss rw => match ss[i]? with
  | some (.own _) => some (.nx (ss.set i (.own [])) rw)
  | _ => none
theorem fs_clear {x : Str} {p0 p1 p2 p3 : Pos} (hv : PE X (.Name x p0) (tVar i)) (hbase : attributeBase (.Name x p0) "clear" X.env (eval (.Name x p0) X.env) = eval (.Name x p0) X.env := by rfl)
    (hline : (p1.endLine == p2.line) = true := by rfl) (hsw : swapsWith (.Call (.Attribute (.Name x p0) "clear" p1) [] [] p2) none p3.line X.env = pure false := by rfl) :
    FS X P fx W (.Expr (.Call (.Attribute (.Name x p0) "clear" p1) [] [] p2) p3) (sClr i) := by
  refine PS.imp (ps_expr (pe_bm0 PySem.F.plainAttrs_list PySem.F.slot_list_clear PySem.F.type_list_clear mt_clear hv hbase hline) hsw) ?_
  rintro D σ H ⟨M, r, ss, rw, o, I, e, q⟩
  unfold sClr at e
  split at e
  next ds hi =>
    cases e
    obtain ⟨p, vs, h1, h2, h3, h4, h5⟩ := I.ow i ds hi
    refine ⟨_, h1, .inl ⟨rfl, vs, SqL.of h2⟩, p, vs, rfl, rfl, h2, ?_⟩
    obtain ⟨J, G⟩ := I.owned (es := []) hi h1 .nil
    exact q _ _ G J
  next => cases e
/-- an own list is a list as any other from here on -/
def frz (i : Nat) (ss : List Sl) : List Sl := match ss[i]? with
  | some (.own ds) => ss.set i (.vl (.dat (.list ds)))
  | _ => ss
def sFrz (i : Nat) (m : Sx) : Sx := fun ss rw => m (frz i ss) rw
theorem ER.frz (I : ER P M r σ H ss rw) (i : Nat) : ER P M r σ H (frz i ss) rw ∧ Gr r σ H ss σ H (frz i ss) := by
  unfold FL.frz
  split
  next ds hi =>
    obtain ⟨p, vs, h1, hp, hd, hM, hr⟩ := I.ow i ds hi
    have hl : i < ss.length := (List.getElem?_eq_some_iff.mp hi).1
    have own_of : ∀ a, Own σ (ss.set i (.vl (.dat (.list ds)))) a → Own σ ss a ∧ a ≠ p := fun a => by
      rintro ⟨j, gs, e1, e2⟩
      by_cases hj : i = j
      · subst hj
        rw [List.getElem?_set_self hl] at e1
        cases e1
      · rw [List.getElem?_set_ne hj] at e1
        refine ⟨⟨j, gs, e1, e2⟩, fun z => ?_⟩
        subst z
        exact hj (I.inj i j a ds gs hi e1 h1 e2)
    have sub : Same (hdn (Msk M r σ ss) H) (hdn (Msk M r σ (ss.set i (.vl (.dat (.list ds))))) H) := mk_sub (msk_sub fun a z => (own_of a z).1)
    have np : ¬ Msk M r σ (ss.set i (.vl (.dat (.list ds)))) p := fun z => by
      rcases z with z | z | z
      · exact hM z
      · exact hr z
      · exact (own_of p z).2 rfl
    refine ⟨⟨by rw [List.length_set]; exact I.len, fun j y h => ?_, fun j gs h => ?_, fun j h => ?_, fun a h => ?_, I.m0, fun j k a gs fs e1 e2 e3 e4 => ?_⟩, ⟨fun b o e _ _ => e, fun a z => .inl (own_of a z).1, fun b z => z⟩⟩
    · by_cases hj : i = j
      · subst hj
        rw [List.getElem?_set_self hl] at h
        cases h
        exact ⟨_, h1, DR.lst (mk_at np hp) (drAll_mono sub _ _ hd)⟩
      · rw [List.getElem?_set_ne hj] at h
        obtain ⟨u, g1, g2⟩ := I.sl j y h
        exact ⟨u, g1, VR.mono sub g2⟩
    · by_cases hj : i = j
      · subst hj
        rw [List.getElem?_set_self hl] at h
        cases h
      · rw [List.getElem?_set_ne hj] at h
        obtain ⟨a, ws, g1, g2, g3, g4⟩ := I.ow j gs h
        exact ⟨a, ws, g1, g2, drAll_mono sub _ _ g3, g4⟩
    · by_cases hj : i = j
      · subst hj
        rw [List.getElem?_set_self hl] at h
        cases h
      · rw [List.getElem?_set_ne hj] at h
        exact I.rs j h
    · obtain ⟨g1, sa, g2, g3⟩ := I.rk a h
      exact ⟨g1, sa, g2, sub.seq g3⟩
    · have at_ : ∀ (l : Nat) (ts : List PyData), (ss.set i (.vl (.dat (.list ds))))[l]? = some (.own ts) → ss[l]? = some (.own ts) := fun l ts z => by
        by_cases hl' : i = l
        · subst hl'
          rw [List.getElem?_set_self hl] at z
          cases z
        · rw [List.getElem?_set_ne hl'] at z
          exact z
      exact I.inj j k a gs fs (at_ j gs e1) (at_ k fs e2) e3 e4
  next => exact ⟨I, Gr.refl⟩
theorem fs_frz (i : Nat) {st : Stmt} {a : Sx} (h : FS X P fx W st a) : FS X P fx W st (sFrz i a) := PS.imp h fun D σ H ⟨M, r, ss, rw, o, I, e, q⟩ =>
  ⟨M, r, FL.frz i ss, rw, o, (I.frz i).1, e, OuP.after (I.frz i).2 q⟩
theorem fss_frz (i : Nat) {st : List Stmt} {a : Sx} (h : FSs X P fx W st a) : FSs X P fx W st (sFrz i a) := PSs.imp h fun D σ H ⟨M, r, ss, rw, o, I, e, q⟩ =>
  ⟨M, r, FL.frz i ss, rw, o, (I.frz i).1, e, OuP.after (I.frz i).2 q⟩
/-- an item of an own list -/
def mIxO (i : Nat) (fb : Mx Vl) : Mx Vl := bnd fb fun y => fun ss rw => match ss[i]?, y with
  | some (.own ds), .dat (.int k) => (match atI ds k with
    | some d => some (.dat d, rw)
    | none => none)
  | _, _ => none
theorem fe_ixO {x : Str} {b : Expr} {fb : Mx Vl} {p0 pos : Pos} (hv : PE X (.Name x p0) (tVar i)) (hb : FE X P b fb) (hK : X.K = P.K := by rfl) (hs : PlainIx b := by exact (fun _ _ => rfl)) : FE X P (.Subscript (.Name x p0) b pos) (mIxO i fb) := by
  refine PE.imp (pe_ix ix_seq hv hb hs) ?_
  rw [hK]
  rintro σ H Q ⟨M, r, ss, rw, z, rw', I, e, q⟩
  obtain ⟨y, rw1, e1, e⟩ := bnd_some e
  split at e
  next ds k hi =>
    split at e
    next d ed =>
      cases e
      obtain ⟨p, vs, h1, h2, h3, h4, h5⟩ := I.ow i ds hi
      refine ⟨_, h1, M, r, ss, rw, _, _, I, e1, fun u H1 k1 I1 hu => ?_⟩
      obtain ⟨p', vs', g1, g2, g3, _⟩ := I1.ow i ds hi
      rw [h1] at g1
      cases g1
      rw [vr_int hu]
      obtain ⟨w, w1, w2⟩ := atI_all g3 ed
      exact .inl ⟨p, vs', k, w, rfl, rfl, SqL.of g2, w1, q w H1 k1 I1 w2⟩
    next => cases e
  next => cases e
/-- e in x, x an own list of flat ones -/
def mInO (i : Nat) (fa : Mx Vl) : Mx Vl := bnd fa fun y => fun ss rw => match ss[i]?, y with
  | some (.own ds), .dat d => (match dV d, dVs ds with
    | some v, some vs => some (.dat (.bool (inV v vs)), rw)
    | _, _ => none)
  | _, _ => none
theorem fe_inO {x : Str} {a : Expr} {fa : Mx Vl} {p0 pos : Pos} (ha : FE X P a fa) (hv : PE X (.Name x p0) (tVar i)) (hK : X.K = P.K := by rfl) (hm : behindInMarks .In (.Name x p0) = false := by with_unfolding_all rfl) : FE X P (.Compare a [.In] [.Name x p0] pos) (mInO i fa) := by
  refine PE.imp (pe_cmpR op_in_seq ha hv hm) ?_
  rw [hK]
  rintro σ H Q ⟨M, r, ss, rw, z, rw', I, e, q⟩
  obtain ⟨y, rw1, e1, e⟩ := bnd_some e
  refine ⟨M, r, ss, rw, _, _, I, e1, fun u H1 k1 I1 hu => ?_⟩
  split at e
  next ds d hi =>
    split at e
    next v vs ev es =>
      cases e
      obtain ⟨p, ws, h1, h2, h3, h4, h5⟩ := I1.ow i ds hi
      have hu : DR P.K (hdn (Msk M r σ ss) H1) u d := hu
      obtain ⟨rfl, g3⟩ := dvs_dr h3 es
      have := dv_dr hu ev
      subst this
      exact ⟨_, h1, p, ws, rfl, .inl (SqL.of h2), flat_dv hu ev, g3, q _ H1 k1 I1 (DR.bl _)⟩
    next => cases e
  next => cases e

/-! ### if, return, expressions -/
def sIf (c : Mx Bool) (a b : Sx) : Sx := fun ss rw => match c ss rw with
  | some (true, rw1) => a ss rw1
  | some (false, rw1) => b ss rw1
  | none => none
theorem fs_if {c : Expr} {sa sb : List Stmt} {mc : Mx Bool} {a b : Sx} {pos : Pos} (hc : FT X P c mc) (ha : FSs X P fx W sa a) (hb : FSs X P fx W sb b) : FS X P fx W (.If c sa sb pos) (sIf mc a b) := by
  refine PS.imp (ps_if hc ha hb) ?_
  rintro D σ H ⟨M, r, ss, rw, o, I, e, q⟩
  unfold sIf at e
  split at e
  next rw1 e1 => exact ⟨M, r, ss, rw, true, rw1, I, e1, fun H1 k1 I1 => L2.iteT ⟨M, r, ss, rw1, o, I1, e, OuP.after (Gr.ofR k1 I1) q⟩⟩
  next rw1 e1 => exact ⟨M, r, ss, rw, false, rw1, I, e1, fun H1 k1 I1 => L2.iteF ⟨M, r, ss, rw1, o, I1, e, OuP.after (Gr.ofR k1 I1) q⟩⟩
  next => cases e
def sRet (m : Mx Vl) : Sx := fun ss rw => match m ss rw with
  | some (x, rw1) => some (.rt x rw1)
  | none => none
theorem fs_ret {e : Expr} {pos : Pos} (he : FE X P e m) : FS X P fx W (.Return (some e) pos) (sRet m) := by
  refine PS.imp (ps_ret he) ?_
  rintro D σ H ⟨M, r, ss, rw, o, I, e, q⟩
  unfold sRet at e
  split at e
  next x rw1 e1 =>
    cases e
    exact ⟨M, r, ss, rw, x, rw1, I, e1, fun v H1 k1 I1 hv => q v H1 (Gr.ofR (ss := ss) k1 I1).keep (Gr.ofR (ss := ss) k1 I1).live I1.rowAt (VR.mono (mk_sub msk_out) hv)⟩
  next => cases e
theorem fs_retN {pos : Pos} : FS X P fx W (.Return none pos) (sRet (mC .none)) := by
  refine PS.imp ps_retN ?_
  rintro D σ H ⟨M, r, ss, rw, o, I, e, q⟩
  cases e
  exact q .non H (fun _ _ e _ _ => e) (fun _ z => z) I.rowAt DR.non
/-- a new list is handed back -/
def sRetL (m : Mx (List PyData)) : Sx := fun ss rw => match m ss rw with
  | some (x, rw1) => some (.rl x rw1)
  | none => none
theorem fs_retL {e : Expr} {ml : Mx (List PyData)} {pos : Pos} (he : FL X P e ml) : FS X P fx W (.Return (some e) pos) (sRetL ml) := by
  refine PS.imp (ps_ret he) ?_
  rintro D σ H ⟨M, r, ss, rw, o, I, e, q⟩
  unfold sRetL at e
  split at e
  next ds rw1 e1 =>
    cases e
    refine ⟨M, r, ss, rw, ds, rw1, I, e1, fun p vs H1 k1 I1 hp hp1 hv => ?_⟩
    have hM : ¬ M p := fun z => I.m0 p z hp
    have hr : r ≠ some p := fun z => (I1.rk p z).1 (.inr rfl)
    refine q p vs H1 (Gr.ofR (ss := ss) k1 I1).keep (Gr.ofR (ss := ss) k1 I1).live I1.unhide.rowAt (.inr hp) hM hr hp1 (drAll_mono (mk_sub fun a z => ?_) _ _ hv)
    rcases z with (z | z) | z
    · exact .inl (.inl z)
    · exact .inr (.inl z)
    · exact .inl (.inr z)
  next => cases e
/-- an own list is handed back -/
def sRetO (i : Nat) : Sx := fun ss rw => match ss[i]? with
  | some (.own ds) => some (.rl ds rw)
  | _ => none
theorem fs_retO {x : Str} {p0 pos : Pos} (hv : PE X (.Name x p0) (tVar i)) : FS X P fx W (.Return (some (.Name x p0)) pos) (sRetO i) := by
  refine PS.imp (ps_ret hv) ?_
  rintro D σ H ⟨M, r, ss, rw, o, I, e, q⟩
  unfold sRetO at e
  split at e
  next ds hi =>
    cases e
    obtain ⟨p, vs, h1, h2, h3, h4, h5⟩ := I.ow i ds hi
    refine ⟨_, h1, q p vs H (fun _ _ e _ _ => e) (fun _ z => z) I.rowAt (.inl ⟨i, ds, hi, h1⟩) h4 h5 h2 (drAll_mono (mk_sub fun a z => ?_) _ _ h3)⟩
    rcases z with (z | z) | z
    · exact .inl z
    · exact .inr (.inl z)
    · subst z
      exact .inr (.inr ⟨i, ds, hi, h1⟩)
  next => cases e
def sDrop (m : Mx Vl) : Sx := fun ss rw => match m ss rw with
  | some (_, rw1) => some (.nx ss rw1)
  | none => none
theorem fs_expr {e : Expr} {pos : Pos} (he : FE X P e m) (hs : swapsWith e none pos.line X.env = pure false := by rfl) : FS X P fx W (.Expr e pos) (sDrop m) := by
  refine PS.imp (ps_expr he hs) ?_
  rintro D σ H ⟨M, r, ss, rw, o, I, e, q⟩
  unfold sDrop at e
  split at e
  next x rw1 e1 =>
    cases e
    exact ⟨M, r, ss, rw, x, rw1, I, e1, fun v H1 k1 I1 hv => q σ H1 (Gr.ofR k1 I1) I1⟩
  next => cases e
/-- target = e, the target a tuple of names -/
def sTgt (g : PyData → List Sl → Option (List Sl)) (m : Mx Vl) : Sx := fun ss rw => match m ss rw with
  | some (.dat d, rw1) => (match g d ss with
    | some ss1 => some (.nx ss1 rw1)
    | none => none)
  | _ => none
theorem Gr.out0 {σ' : St} {ss' : List Sl} (w : ∀ a, Own σ' ss' a → Own σ ss a) : Gr r σ H ss σ' H ss' := ⟨fun _ _ e _ _ => e, fun a z => .inl (w a z), fun _ z => z⟩
theorem tS_tgt {t : TG} {g : PyData → List Sl → Option (List Sl)} {vs : List Nat} (hg : GOk P t g vs) : ∀ D σ H, tS P fx W (sTgt g m) D σ H → tAsg (tE P m) t D σ H := by
  rintro D σ H ⟨M, r, ss, rw, o, I, e, q⟩
  unfold sTgt at e
  split at e
  next d rw1 e1 =>
    split at e
    next ss1 e2 =>
      cases e
      exact ⟨M, r, ss, rw, _, rw1, I, e1, fun v H1 k1 I1 hv => hg M r σ H1 ss rw1 v d ss1 _ I1 hv e2 fun σ' o' I' w' => q σ' H1 ((Gr.ofR k1 I1).trans (Gr.out0 w')) I'⟩
    next => cases e
  next => cases e
theorem fs_tgt {tg e : Expr} {t : TG} {g : PyData → List Sl → Option (List Sl)} {vs : List Nat} {pos : Pos} (he : FE X P e m) (hgp : PG X tg t) (hg : GOk P t g vs) (hs : swapsWithSole [tg] e pos.line X.env = pure false := by rfl) (hw : swappedStores [tg] e X.env = pure none := by rfl)
    (h1 : (assignEach [tg] X.env).map (·.2) = [assign tg X.env] := by rfl) : FS X P fx W (.Assign [tg] e pos) (sTgt g m) := PS.imp (ps_asg he hgp hs hw h1) (tS_tgt hg)

/-! ### for, while -/
def forGo (g : PyData → List Sl → Option (List Sl)) (b : Sx) : List PyData → Sx
  | [], ss, rw => some (.nx ss rw)
  | x :: xs, ss, rw => match g x ss with
    | none => none
    | some ss1 => match b ss1 rw with
      | some (.nx ss2 rw2) => forGo g b xs ss2 rw2
      | some (.ct ss2 rw2) => forGo g b xs ss2 rw2
      | some (.bk ss2 rw2) => some (.nx ss2 rw2)
      | o => o
def sFor (mi : Mx (List PyData)) (g : PyData → List Sl → Option (List Sl)) (b : Sx) : Sx := fun ss rw => match mi ss rw with
  | some (xs, rw1) => forGo g b xs ss rw1
  | none => none
theorem tS_for {mi : Mx (List PyData)} {t : TG} {g : PyData → List Sl → Option (List Sl)} {b : Sx} {vs : List Nat} (hg : GOk P t g vs) : ∀ D σ H, tS P fx W (sFor mi g b) D σ H → tFor (tI P mi) t (tS P fx W b) D σ H := by
  rintro D σ H ⟨M, r, ss, rw, o, I, e, q⟩
  unfold sFor at e
  split at e
  next xs rw1 e1 =>
    refine ⟨M, r, ss, rw, xs, rw1, I, e1, fun J H1 k1 I1 wk => ?_⟩
    have q1 := OuP.after (Gr.ofR (ss := ss) k1 I1) q
    -- how the data ahead is seen later
    have seen : ∀ {σ2 : St} {H2 : Hp} {ss2 : List Sl} {rw2 : Ro}, Gr r σ H1 ss σ2 H2 ss2 → ER P M r σ2 H2 ss2 rw2 → Same (hdn (Msk M r σ ss) H1) (hdn (Msk M r σ2 ss2) H2) := fun {σ2 H2 ss2 rw2} g I2 => mk_same fun b o n h => by
      have nr : r ≠ some b := fun z => n (.inr (.inl z))
      have no : ¬ Own σ ss b := fun z => n (.inr (.inr z))
      refine ⟨fun z => ?_, g.keep b o h nr no⟩
      rcases z with z | z | z
      · exact n (.inl z)
      · exact n (.inr (.inl z))
      · rcases g.own b z with z | z
        · exact no z
        · rw [z] at h; cases h
    let Pv : Nat → St → Hp → Prop := fun i σ2 H2 => ∃ ss2 rw2, Gr r σ H1 ss σ2 H2 ss2 ∧ ER P M r σ2 H2 ss2 rw2 ∧ forGo g b (xs.drop i) ss2 rw2 = some o
    have pg : ∀ {i : Nat} {σ2 : St} {H2 : Hp}, Pv i σ2 H2 → ∃ S1, Same (hdn (Msk M r σ ss) H1) (hdn S1 H2) ∧ ∀ a, S1 a → H2 a ≠ none := fun {i σ2 H2} ⟨ss2, rw2, g2, I2, _⟩ => ⟨_, seen g2 I2, I2.alloc⟩
    have Wk : Walk J xs.length (fun H2 => ∃ S1, Same (hdn (Msk M r σ ss) H1) (hdn S1 H2) ∧ ∀ a, S1 a → H2 a ≠ none) (fun i H2 x H3 => Same H2 H3 ∧ ∃ d, xs[i]? = some d ∧ ∀ S1, Same (hdn (Msk M r σ ss) H1) (hdn S1 H2) → (∀ a, S1 a → H2 a ≠ none) → DR P.K (hdn S1 H3) x d) := by
      refine ⟨fun i H2 hi ⟨S1, h1, h2⟩ => ((wk S1 H2 h1 h2).1 i hi).1, fun H2 ⟨S1, h1, h2⟩ => (wk S1 H2 h1 h2).2, fun i H2 x H3 hi ⟨S1, h1, h2⟩ y => ?_⟩
      obtain ⟨s, d, g1, g2⟩ := ((wk S1 H2 h1 h2).1 i hi).2 x H3 y
      refine ⟨s, d, g1, fun S2 s2 a2 => ?_⟩
      obtain ⟨_, d', g1', g2'⟩ := ((wk S2 H2 s2 a2).1 i hi).2 x H3 y
      rw [g1] at g1'
      cases g1'
      exact g2'
    refine for_it Wk Pv ⟨ss, rw1, Gr.refl, I1, e⟩ (fun i σ2 H2 _ p => pg p) ?_ ?_
    · rintro i x σ2 H2 H3 hi ⟨ss2, rw2, g2, I2, e2⟩ ⟨s3, d, hd, hx⟩
      have hx' := hx _ (seen g2 I2) I2.alloc
      have I3 := I2.grow s3
      have g3 : Gr r σ2 H2 ss2 σ2 H3 ss2 := Gr.ofR (KeepR.of s3) I3
      rw [List.drop_eq_getElem_cons hi] at e2
      have ed : xs[i] = d := by
        rw [List.getElem?_eq_getElem hi] at hd
        exact Option.some.inj hd
      rw [ed] at e2
      unfold forGo at e2
      split at e2
      next => cases e2
      next ss3 h3 =>
        refine hg M r σ2 H3 ss2 rw2 x d ss3 _ I3 hx' h3 fun σ3 o3 I4 w3 => ?_
        have g4 : Gr r σ H1 ss σ3 H3 ss3 := (g2.trans g3).trans (Gr.out0 w3)
        split at e2
        next ss5 rw5 h5 => exact ⟨M, r, ss3, rw2, _, I4, h5, fun σ5 H5 g5 I5 => ⟨ss5, rw5, g4.trans g5, I5, e2⟩⟩
        next ss5 rw5 h5 => exact ⟨M, r, ss3, rw2, _, I4, h5, fun σ5 H5 g5 I5 => ⟨ss5, rw5, g4.trans g5, I5, e2⟩⟩
        next ss5 rw5 h5 =>
          cases e2
          exact ⟨M, r, ss3, rw2, _, I4, h5, fun σ5 H5 g5 I5 => q1 σ5 H5 (g4.trans g5) I5⟩
        next n1 n2 n3 =>
          refine ⟨M, r, ss3, rw2, o, I4, e2, ?_⟩
          have q4 := OuP.after g4 q1
          cases o with
          | nx a b => exact absurd e2 (n1 a b)
          | ct a b => exact absurd e2 (n2 a b)
          | bk a b => exact absurd e2 (n3 a b)
          | rt x c => exact q4
          | rl x c => exact q4
          | er x a b => exact q4
    · rintro σ2 H2 ⟨ss2, rw2, g2, I2, e2⟩
      rw [List.drop_length] at e2
      unfold forGo at e2
      cases e2
      exact q1 σ2 H2 g2 I2
  next => cases e
theorem fs_for {tg iter : Expr} {body : List Stmt} {mi : Mx (List PyData)} {t : TG} {g : PyData → List Sl → Option (List Sl)} {b : Sx} {vs : List Nat} {pos : Pos} (hi : FI X P tg iter mi) (hgp : PG X tg t) (hg : GOk P t g vs) (hb : FSs X P fx W body b)
    (hp : PassesOwn (model X.prog X.w) X.A X.env X.xe) (hc : X.calm = true := by rfl) (hs : ∀ x, foldedSetIterable iter X.env x = pure x := by intro _; rfl) : FS X P fx W (.For tg iter body [] pos) (sFor mi g b) :=
  PS.imp (ps_for hp hc hi hgp hb hs) (tS_for hg)
end
end FL
/-! Calls and defs. -/
namespace FL
open PySem L2

/-! ### what a def promises, by its function of data -/
def Live (S : Addr → Prop) (H : Hp) : Prop := ∀ a, S a → H a ≠ none
def spP (P : Pm) (F : List Vl → Option Vl) : Sp := fun vs H Q _ => ∃ S xs x, Live S H ∧ VRs P (hdn S H) vs xs ∧ F xs = some x ∧ ∀ v H', Same H H' → VR P (hdn S H') v x → Q v H'
/-- .. a new list -/
def spL (P : Pm) (F : List Vl → Option (List PyData)) : Sp := fun vs H Q _ => ∃ S xs ds, Live S H ∧ VRs P (hdn S H) vs xs ∧ F xs = some ds ∧
  ∀ p us H', Same H H' → H p = none → H' p = some (.lst us) → DRAll P.K (hdn (fun a => S a ∨ a = p) H') us ds → Q (.ref p) H'
/-- .. with the row ahead -/
def spR (P : Pm) (F : List Vl → Ro → Option (Vl × Ro)) : Sp := fun vs H Q _ => ∃ M a us xs rw x rw', vs = .ref a :: us ∧ ¬ M a ∧ Live M H ∧ RowAt P M (some a) H rw ∧ VRs P (hdn (fun b => M b ∨ some a = some b) H) us xs ∧ F xs rw = some (x, rw') ∧
  ∀ v H', KeepR (some a) H H' → RowAt P M (some a) H' rw' → VR P (hdn (fun b => M b ∨ some a = some b) H') v x → Q v H'
/-- .. that may raise -/
def spX (P : Pm) (fx : Nat → Addr) (F : List Vl → Option Res) : Sp := fun vs H Q E => ∃ S xs x, Live S H ∧ VRs P (hdn S H) vs xs ∧ F xs = some x ∧ (match x with
  | .ok y => ∀ v H', Same H H' → VR P (hdn S H') v y → Q v H'
  | .er ex => ∀ cls d H', Same H H' → ExR P fx ex cls d H' → E cls d H')

def slots (n : Nat) (xs : List Vl) : List Sl := xs.map Sl.vl ++ List.replicate (n - xs.length) .no
def slotsR (n : Nat) (xs : List Vl) : List Sl := .row :: (xs.map Sl.vl ++ List.replicate (n - 1 - xs.length) .no)
def bodyP (n k : Nat) (m : Sx) (xs : List Vl) : Option Vl := if xs.length = k then (match m (slots n xs) (0, 0) with
    | some (.rt x _) => some x
    | some (.nx _ _) => some (.dat .none)
    | some (.rl ds _) => some (.dat (.list ds))
    | _ => none)
  else none
def bodyL (n k : Nat) (m : Sx) (xs : List Vl) : Option (List PyData) := if xs.length = k then (match m (slots n xs) (0, 0) with
    | some (.rl ds _) => some ds
    | _ => none)
  else none
/-- k: the parameters behind the row -/
def bodyR (n k : Nat) (m : Sx) (xs : List Vl) (rw : Ro) : Option (Vl × Ro) := if xs.length = k then (match m (slotsR n xs) rw with
    | some (.rt x rw') => some (x, rw')
    | some (.nx _ rw') => some (.dat .none, rw')
    | some (.rl ds rw') => some (.dat (.list ds), rw')
    | _ => none)
  else none
def bodyX (n k : Nat) (m : Sx) (xs : List Vl) : Option Res := if xs.length = k then (match m (slots n xs) (0, 0) with
    | some (.rt x _) => some (.ok x)
    | some (.nx _ _) => some (.ok (.dat .none))
    | some (.rl ds _) => some (.ok (.dat (.list ds)))
    | some (.er e _ _) => some (.er e)
    | _ => none)
  else none
theorem VRs.get {P : Pm} {H : Hp} : ∀ {xs : List Vl} {vs : List V} {i : Nat} {x : Vl}, VRs P H vs xs → xs[i]? = some x → ∃ v, vs[i]? = some v ∧ VR P H v x
  | [], _, i, x, h, e => by simp at e
  | d :: ds, _, 0, x, h, e => by
    cases h with
    | cons h1 h2 =>
      have e' : d = x := by simpa using e
      subst e'
      exact ⟨_, rfl, h1⟩
  | d :: ds, _, i + 1, x, h, e => by
    cases h with
    | cons h1 h2 =>
      obtain ⟨v, e1, e2⟩ := VRs.get (i := i) h2 (by simpa using e)
      exact ⟨v, by simpa using e1, e2⟩
section
variable {P : Pm} {M S : Addr → Prop} {H : Hp} {N : List Str} {vs : List V} {xs : List Vl}
theorem slots_at {n i : Nat} {s : Sl} (h : (slots n xs)[i]? = some s) : (∃ x, xs[i]? = some x ∧ s = .vl x) ∨ s = .no := by
  unfold slots at h
  by_cases hi : i < (xs.map Sl.vl).length
  · rw [List.getElem?_append_left hi, List.getElem?_map] at h
    cases e : xs[i]? with
    | none => rw [e] at h; cases h
    | some x => rw [e] at h; cases h; exact .inl ⟨x, rfl, rfl⟩
  · rw [List.getElem?_append_right (by omega)] at h
    have := List.mem_of_getElem? h
    rw [List.mem_replicate] at this
    exact .inr this.2
theorem start_at (h : VRs P H vs xs) {i : Nat} {x : Vl} (e : xs[i]? = some x) : ∃ v, (L2.start N vs)[i]? = some (some v) ∧ VR P H v x := by
  obtain ⟨v, e1, e2⟩ := VRs.get h e
  refine ⟨v, ?_, e2⟩
  unfold L2.start
  have hi : i < (vs.map some).length := by
    rw [List.length_map]
    exact (List.getElem?_eq_some_iff.mp e1).1
  rw [List.getElem?_append_left hi, List.getElem?_map, e1]
  rfl
theorem no_own_slots {σ : St} {n : Nat} {a : Addr} (h : Own σ (slots n xs) a) : False := by
  obtain ⟨i, ds, h1, _⟩ := h
  rcases slots_at h1 with ⟨x, _, z⟩ | z <;> cases z
theorem er_start (hl : xs.length ≤ N.length) (hS : Live S H) (h : VRs P (hdn S H) vs xs) : ER P S none (L2.start N vs) H (slots N.length xs) (0, 0) := by
  have sub : Same (hdn S H) (hdn (Msk S none (L2.start N vs) (slots N.length xs)) H) := mk_sub fun a z => by
    rcases z with z | z | z
    · exact z
    · cases z
    · exact (no_own_slots z).elim
  have hlen := h.length
  refine ⟨?_, fun i x e => ?_, fun i ds e => ?_, fun i e => ?_, fun a e => (nomatch e), hS, fun i j a ds es e => ?_⟩
  · unfold L2.start slots
    simp only [List.length_append, List.length_map, List.length_replicate]
    omega
  · rcases slots_at e with ⟨y, e1, z⟩ | z
    · cases z
      obtain ⟨v, g1, g2⟩ := start_at (N := N) h e1
      exact ⟨v, g1, VR.mono sub g2⟩
    · cases z
  · rcases slots_at e with ⟨x, _, z⟩ | z <;> cases z
  · rcases slots_at e with ⟨x, _, z⟩ | z <;> cases z
  · rcases slots_at e with ⟨x, _, z⟩ | z <;> cases z
theorem slotsR_at {n i : Nat} {s : Sl} (h : (slotsR n xs)[i]? = some s) : (i = 0 ∧ s = .row) ∨ (∃ j x, i = j + 1 ∧ xs[j]? = some x ∧ s = .vl x) ∨ s = .no := by
  cases i with
  | zero =>
    unfold slotsR at h
    cases h
    exact .inl ⟨rfl, rfl⟩
  | succ j =>
    unfold slotsR at h
    rw [List.getElem?_cons_succ] at h
    rcases slots_at (n := n - 1) (i := j) h with ⟨x, e, z⟩ | z
    · exact .inr (.inl ⟨j, x, rfl, e, z⟩)
    · exact .inr (.inr z)
theorem no_own_slotsR {σ : St} {n : Nat} {a : Addr} (h : Own σ (slotsR n xs) a) : False := by
  obtain ⟨i, ds, h1, _⟩ := h
  rcases slotsR_at h1 with ⟨_, z⟩ | ⟨_, _, _, _, z⟩ | z <;> cases z
theorem er_startR {a : Addr} {rw : Ro} (hl : xs.length + 1 ≤ N.length) (hM : ¬ M a) (hS : Live M H) (hr : RowAt P M (some a) H rw) (h : VRs P (hdn (fun b => M b ∨ some a = some b) H) vs xs) : ER P M (some a) (L2.start N (.ref a :: vs)) H (slotsR N.length xs) rw := by
  have sub : Same (hdn (fun b => M b ∨ some a = some b) H) (hdn (Msk M (some a) (L2.start N (.ref a :: vs)) (slotsR N.length xs)) H) := mk_sub fun b z => by
    rcases z with z | z | z
    · exact .inl z
    · exact .inr z
    · exact (no_own_slotsR z).elim
  have hlen := h.length
  have st : ∀ {j : Nat} {v : V}, vs[j]? = some v → (L2.start N (.ref a :: vs))[j + 1]? = some (some v) := fun {j v} e => by
    unfold L2.start
    rw [List.map_cons, List.cons_append, List.getElem?_cons_succ]
    have hi : j < (vs.map some).length := by
      rw [List.length_map]
      exact (List.getElem?_eq_some_iff.mp e).1
    rw [List.getElem?_append_left hi, List.getElem?_map, e]
    rfl
  refine ⟨?_, fun i x e => ?_, fun i ds e => ?_, fun i e => ?_, fun b e => ?_, hS, fun i j a ds es e => ?_⟩
  · unfold L2.start slotsR
    simp only [List.length_append, List.length_map, List.length_replicate, List.length_cons]
    omega
  · rcases slotsR_at e with ⟨_, z⟩ | ⟨j, y, rfl, e1, z⟩ | z
    · cases z
    · cases z
      obtain ⟨v, g1, g2⟩ := VRs.get h e1
      exact ⟨v, st g1, VR.mono sub g2⟩
    · cases z
  · rcases slotsR_at e with ⟨_, z⟩ | ⟨_, _, _, _, z⟩ | z <;> cases z
  · rcases slotsR_at e with ⟨z, _⟩ | ⟨_, _, _, _, z⟩ | z
    · subst z
      exact ⟨a, rfl, rfl⟩
    · cases z
    · cases z
  · cases e
    obtain ⟨sa, h1, h2⟩ := hr a rfl
    exact ⟨hM, sa, h1, sub.seq h2⟩
  · rcases slotsR_at e with ⟨_, z⟩ | ⟨_, _, _, _, z⟩ | z <;> cases z
end

/-! ### a def, by its body -/
abbrev W0 : WX := fun _ _ _ _ => False
theorem same_of {ss : List Sl} {σ : St} {H H' : Hp} (h : KeepO none σ H ss H') (no : ∀ a, ¬ Own σ ss a) : Same H H' := fun b o e => h b o e (by simp) (no b)
theorem hdn_none {S : Addr → Prop} {H : Hp} : Same (hdn (fun a => S a ∨ (none : Option Addr) = some a) H) (hdn S H) := mk_sub fun _ z => .inl z
section
variable {Pg : Program} {w : World} {K : PySem.W.Frag} {mg : Str → Option Value} {base : Heap} {P : Pm} {fx : Nat → Addr} {x qual : Str} {st : Stmt} {f : Addr} {fd : FuncData} {N ps : List Str} {k : Nat} {m : Sx}
theorem fn_P (F : Fun K x qual st f fd) (S : FnScope N ps (defScope st)) (hk : ps.length ≤ N.length)
    (hb : ∀ (cdv : Value) (A : Around) (outer : List Env) (s : Shared) (H : Hp) (E : XK), Room k (A.deeper (PyProof.Rows.envOfC qual (defScope st) s.heap.objs.size f cdv)) → FSs (cxOf CX0 Pg w K mg base N qual (defScope st) f cdv A outer s H E).nox P fx W0 (defBody st) m) :
    FnOk Pg w K mg base CX0 (k + 1) f fd ps (spP P (bodyP N.length ps.length m)) := by
  refine F.ok S (fun vs H Q E h => ?_) (fun cdv A outer s H vs Q E hr h => ⟨_, hb cdv A outer s H E hr, ?_⟩)
  · obtain ⟨S0, xs, y, _, h2, h3, _⟩ := h
    rw [h2.length]
    unfold bodyP at h3
    split at h3
    next e => exact e
    next => cases h3
  · obtain ⟨S0, xs, y, h1, h2, h3, q⟩ := h
    unfold bodyP at h3
    split at h3
    next hl =>
      have I := er_start (N := N) (by omega) h1 h2
      have no : ∀ a, ¬ Own (L2.start N vs) (slots N.length xs) a := fun a z => no_own_slots z
      split at h3
      next z rw' e =>
        cases h3
        exact ⟨S0, none, _, _, _, I, e, fun v H' k' _ _ hv => q v H' (same_of k' no) (VR.mono hdn_none hv)⟩
      next ss' rw' e =>
        cases h3
        exact ⟨S0, none, _, _, _, I, e, fun σ' H' g I' => q _ H' (same_of g.keep no) DR.non⟩
      next ds rw' e =>
        cases h3
        refine ⟨S0, none, _, _, _, I, e, fun p us H' k' _ _ _ hm _ hp hv => q _ H' (same_of k' no) (DR.lst (mk_at hm hp) (drAll_mono (mk_sub fun a z => ?_) _ _ hv))⟩
        exact .inl (.inl z)
      next => cases h3
    next => cases h3
theorem fn_L (F : Fun K x qual st f fd) (S : FnScope N ps (defScope st)) (hk : ps.length ≤ N.length)
    (hb : ∀ (cdv : Value) (A : Around) (outer : List Env) (s : Shared) (H : Hp) (E : XK), Room k (A.deeper (PyProof.Rows.envOfC qual (defScope st) s.heap.objs.size f cdv)) → FSs (cxOf CX0 Pg w K mg base N qual (defScope st) f cdv A outer s H E).nox P fx W0 (defBody st) m) :
    FnOk Pg w K mg base CX0 (k + 1) f fd ps (spL P (bodyL N.length ps.length m)) := by
  refine F.ok S (fun vs H Q E h => ?_) (fun cdv A outer s H vs Q E hr h => ⟨_, hb cdv A outer s H E hr, ?_⟩)
  · obtain ⟨S0, xs, y, _, h2, h3, _⟩ := h
    rw [h2.length]
    unfold bodyL at h3
    split at h3
    next e => exact e
    next => cases h3
  · obtain ⟨S0, xs, y, h1, h2, h3, q⟩ := h
    unfold bodyL at h3
    split at h3
    next hl =>
      have I := er_start (N := N) (by omega) h1 h2
      have no : ∀ a, ¬ Own (L2.start N vs) (slots N.length xs) a := fun a z => no_own_slots z
      split at h3
      next ds rw' e =>
        cases h3
        refine ⟨S0, none, _, _, _, I, e, fun p us H' k' _ _ ho hm _ hp hv => q p us H' (same_of k' no) (ho.resolve_left (no p)) hp (drAll_mono (mk_sub fun a z => ?_) _ _ hv)⟩
        rcases z with z | z
        · exact .inl (.inl z)
        · exact .inr z
      next => cases h3
    next => cases h3
theorem fn_R (F : Fun K x qual st f fd) (S : FnScope N ps (defScope st)) (hk : ps.length ≤ N.length) (h0 : 0 < ps.length)
    (hb : ∀ (cdv : Value) (A : Around) (outer : List Env) (s : Shared) (H : Hp) (E : XK), Room k (A.deeper (PyProof.Rows.envOfC qual (defScope st) s.heap.objs.size f cdv)) → FSs (cxOf CX0 Pg w K mg base N qual (defScope st) f cdv A outer s H E).nox P fx W0 (defBody st) m) :
    FnOk Pg w K mg base CX0 (k + 1) f fd ps (spR P (bodyR N.length (ps.length - 1) m)) := by
  refine F.ok S (fun vs H Q E h => ?_) (fun cdv A outer s H vs Q E hr h => ⟨_, hb cdv A outer s H E hr, ?_⟩)
  · obtain ⟨M, a, us, xs, rw, y, rw', rfl, _, _, _, h2, h3, _⟩ := h
    rw [List.length_cons, h2.length]
    unfold bodyR at h3
    split at h3
    next e => omega
    next => cases h3
  · obtain ⟨M, a, us, xs, rw, y, rw', rfl, hM, hL, hR, h2, h3, q⟩ := h
    unfold bodyR at h3
    split at h3
    next hl =>
      have I := er_startR (N := N) (by omega) hM hL hR h2
      have no : ∀ a', ¬ Own (L2.start N (.ref a :: us)) (slotsR N.length xs) a' := fun a z => no_own_slotsR z
      have kr : ∀ {H' : Hp}, KeepO (some a) (L2.start N (.ref a :: us)) H (slotsR N.length xs) H' → KeepR (some a) H H' := fun k' b o e n => k' b o e n (no b)
      split at h3
      next z rw1 e =>
        cases h3
        exact ⟨M, some a, _, _, _, I, e, fun v H' k' _ ra hv => q v H' (kr k') ra hv⟩
      next ss' rw1 e =>
        cases h3
        exact ⟨M, some a, _, _, _, I, e, fun σ' H' g I' => q _ H' (kr g.keep) I'.rowAt DR.non⟩
      next ds rw1 e =>
        cases h3
        refine ⟨M, some a, _, _, _, I, e, fun p us H' k' _ ra _ hm hr' hp hv => q _ H' (kr k') ra (DR.lst (mk_at (fun z => z.elim hm hr') hp) (drAll_mono (mk_sub fun a z => .inl z) _ _ hv))⟩
      next => cases h3
    next => cases h3
theorem fn_X (F : Fun K x qual st f fd) (S : FnScope N ps (defScope st)) (hk : ps.length ≤ N.length)
    (hb : ∀ (cdv : Value) (A : Around) (outer : List Env) (s : Shared) (H : Hp) (E : XK), Room k (A.deeper (PyProof.Rows.envOfC qual (defScope st) s.heap.objs.size f cdv)) →
      FSs (cxOf (L2.CX Pg w) Pg w K mg base N qual (defScope st) f cdv A outer s H E) P fx (fun cls d _ H => E cls d H) (defBody st) m) :
    FnOk Pg w K mg base (L2.CX Pg w) (k + 1) f fd ps (spX P fx (bodyX N.length ps.length m)) := by
  refine F.okX S (fun vs H Q E h => ?_) (fun cdv A outer s H vs Q E hr h => ⟨_, hb cdv A outer s H E hr, ?_⟩)
  · obtain ⟨S0, xs, y, _, h2, h3, _⟩ := h
    rw [h2.length]
    unfold bodyX at h3
    split at h3
    next e => exact e
    next => cases h3
  · obtain ⟨S0, xs, y, h1, h2, h3, q⟩ := h
    unfold bodyX at h3
    split at h3
    next hl =>
      have I := er_start (N := N) (by omega) h1 h2
      have no : ∀ a, ¬ Own (L2.start N vs) (slots N.length xs) a := fun a z => no_own_slots z
      split at h3
      next z rw' e =>
        cases h3
        exact ⟨S0, none, _, _, _, I, e, fun v H' k' _ _ hv => q v H' (same_of k' no) (VR.mono hdn_none hv)⟩
      next ss' rw' e =>
        cases h3
        exact ⟨S0, none, _, _, _, I, e, fun σ' H' g I' => q _ H' (same_of g.keep no) DR.non⟩
      next ds rw' e =>
        cases h3
        refine ⟨S0, none, _, _, _, I, e, fun p us H' k' _ _ _ hm _ hp hv => q _ H' (same_of k' no) (DR.lst (mk_at hm hp) (drAll_mono (mk_sub fun a z => ?_) _ _ hv))⟩
        exact .inl (.inl z)
      next ex ss' rw' e =>
        cases h3
        exact ⟨S0, none, _, _, _, I, e, fun σ' cls d H' g I' hx => q cls d H' (same_of g.keep no) hx⟩
      next => cases h3
    next => cases h3
end

/-! ### calls -/
section
variable {P : Pm} {X : Cx} {fx : Nat → Addr} {W : WX} {k : Nat} {f : Addr} {fd : FuncData} {ps : List Str} {x : Str} {p pos : Pos} {e : Expr} {es : List Expr} {ma : Mx (List Vl)}
def mCall (F : List Vl → Option Vl) (ma : Mx (List Vl)) : Mx Vl := bnd ma fun xs => opt (F xs)
theorem live_msk {M : Addr → Prop} {r : Option Addr} {σ : St} {H : Hp} {ss : List Sl} {rw : Ro} (I : ER P M r σ H ss rw) : Live (Msk M r σ ss) H := I.alloc
theorem fe_call {F : List Vl → Option Vl} (G : FnOk X.prog X.w X.K X.mg X.base CX0 k f fd ps (spP P F)) (hr : Room k X.A) (hm : X.mg x = some (.ref f)) (hk : PySem.W.keepIn X.K (.ref f) = true) (hb : Binds X.K fd ps []) (ha : FA X P (e :: es) ma)
    (hg : Gl X x := by rfl) (hdb : (x == ("__debug__" : Str)) = false := by decide) (he : starEach (e :: es) X.env = (false, eval e X.env) :: starEach es X.env := by rfl) (hpl : (backTo pos (starEach es X.env)).any (·.1) = false := by rfl) :
    FE X P (.Call (.Name x p) (e :: es) [] pos) (mCall F ma) := by
  refine PE.imp (pe_call G hr hg hm hk hb .nil pass0 ha hdb he hpl) ?_
  rintro σ H Q ⟨M, r, ss, rw, z, rw', I, e, q⟩
  obtain ⟨xs, rw1, e1, e⟩ := bnd_some e
  obtain ⟨e2, rfl⟩ := opt_some e
  refine ⟨M, r, ss, rw, xs, _, I, e1, fun vs H1 k1 I1 hv => ?_⟩
  show spP P F (vs ++ []) H1 Q E0
  rw [List.append_nil]
  exact ⟨_, xs, z, I1.alloc, hv, e2, fun v H2 s2 h2 => q v H2 (k1.trans (KeepR.of s2)) (I1.grow s2) h2⟩
def mCallL (F : List Vl → Option (List PyData)) (ma : Mx (List Vl)) : Mx (List PyData) := bnd ma fun xs => opt (F xs)
theorem back_none {r : Option Addr} {M : Addr → Prop} {σ : St} {H H1 : Hp} {ss : List Sl} {rw1 : Ro} (k : KeepR r H H1) (I1 : ER P M r σ H1 ss rw1) {q : Addr} (h : H1 q = none) : H q = none := by
  cases z : H q with
  | none => rfl
  | some o =>
    by_cases hr : r = some q
    · obtain ⟨_, sa, e, _⟩ := I1.rk q hr
      rw [h] at e; cases e
    · rw [k q o z hr] at h; cases h
theorem fl_call {F : List Vl → Option (List PyData)} (G : FnOk X.prog X.w X.K X.mg X.base CX0 k f fd ps (spL P F)) (hr : Room k X.A) (hm : X.mg x = some (.ref f)) (hk : PySem.W.keepIn X.K (.ref f) = true) (hb : Binds X.K fd ps []) (ha : FA X P (e :: es) ma)
    (hg : Gl X x := by rfl) (hdb : (x == ("__debug__" : Str)) = false := by decide) (he : starEach (e :: es) X.env = (false, eval e X.env) :: starEach es X.env := by rfl) (hpl : (backTo pos (starEach es X.env)).any (·.1) = false := by rfl) :
    FL X P (.Call (.Name x p) (e :: es) [] pos) (mCallL F ma) := by
  refine PE.imp (pe_call G hr hg hm hk hb .nil pass0 ha hdb he hpl) ?_
  rintro σ H Q ⟨M, r, ss, rw, z, rw', I, e, q⟩
  obtain ⟨xs, rw1, e1, e⟩ := bnd_some e
  obtain ⟨e2, rfl⟩ := opt_some e
  refine ⟨M, r, ss, rw, xs, _, I, e1, fun vs H1 k1 I1 hv => ?_⟩
  show spL P F (vs ++ []) H1 Q E0
  rw [List.append_nil]
  refine ⟨_, xs, z, I1.alloc, hv, e2, fun l us H2 s2 hl hl2 h2 => q l us H2 (k1.trans (KeepR.of s2)) (I1.hideS s2 hl (by rw [hl2]; simp)) (back_none k1 I1 hl) hl2 (drAll_mono (mk_sub fun a z => ?_) _ _ h2)⟩
  rcases z with (z | z) | z | z
  · exact .inl (.inl z)
  · exact .inr z
  · exact .inl (.inr (.inl z))
  · exact .inl (.inr (.inr z))
/-- a method without arguments, of a house: a new list -/
theorem fl_meth0 {F : List Vl → Option (List PyData)} {o : Expr} {fo : Mx Vl} {C : Addr} {mth : Str} {apos : Pos} {pl : Sem Bool} (G : FnOk X.prog X.w X.K X.mg X.base CX0 k f fd ps (spL P F)) (hr : Room k X.A) (c : Cls X.K C) (hm : Meth X.K C mth f) (hb : Binds X.K fd ps []) (ho : FE X P o fo)
    (hh : ∀ H y t s, P.hs H y t s → ∃ dx fs, H y = some (.ins C dx fs) ∧ fs.lookup mth = none)
    (ht : eval (.Call (.Attribute o mth apos) [] [] pos) X.env = (do
      let ov ← eval o X.env
      standAt apos.atName
      let (f, first) ← holding [ov] (getMethod ov mth pl)
      callWith pos f first (backTo pos (starEach [] X.env)) (backToKw pos (keywordEach [] X.env))) := by rfl) :
    FL X P (.Call (.Attribute o mth apos) [] [] pos) (mCallL F (bnd fo fun y => match y with
      | .hse t s => pur [.hse t s]
      | _ => opt none)) := by
  refine PE.imp (pe_meth0 ho c hm G hr hb .nil pass0 ht) ?_
  rintro σ H Q ⟨M, r, ss, rw, z, rw', I, e, q⟩
  obtain ⟨xs, rw1, e1, e⟩ := bnd_some e
  obtain ⟨e2, rfl⟩ := opt_some e
  obtain ⟨y, rw2, e3, e4⟩ := bnd_some e1
  refine ⟨M, r, ss, rw, y, _, I, e3, fun v H1 k1 I1 hv => ?_⟩
  split at e4
  next t s =>
    obtain ⟨rfl, rfl⟩ := pur_some e4
    obtain ⟨b, rfl, hb'⟩ := hv
    obtain ⟨dx, fs, h1, h2⟩ := hh _ _ _ _ (P.hmono (mk_le _ H1) hb')
    refine ⟨b, dx, fs, rfl, h1, h2, ?_⟩
    have hb0 : VR P (hdn (Msk M r σ ss) H1) (V.ref b) (.hse t s) := ⟨b, rfl, hb'⟩
    refine ⟨_, _, z, I1.alloc, .cons hb0 .nil, e2, fun l us H2 s2 hl hl2 h2 => q l us H2 (k1.trans (KeepR.of s2)) (I1.hideS s2 hl (by rw [hl2]; simp)) (back_none k1 I1 hl) hl2 (drAll_mono (mk_sub fun a z => ?_) _ _ h2)⟩
    rcases z with (z | z) | z | z
    · exact .inl (.inl z)
    · exact .inr z
    · exact .inl (.inr (.inl z))
    · exact .inl (.inr (.inr z))
  next => cases (opt_some e4).1
/-- f(row, e, ..): the row in slot i -/
def mCallR (i : Nat) (F : List Vl → Ro → Option (Vl × Ro)) (ma : Mx (List Vl)) : Mx Vl := fun ss rw => match ss[i]? with
  | some .row => (match ma ss rw with
    | some (xs, rw1) => F xs rw1
    | none => none)
  | _ => none
theorem fe_callR {F : List Vl → Ro → Option (Vl × Ro)} {i : Nat} {y : Str} {p0 : Pos} (G : FnOk X.prog X.w X.K X.mg X.base CX0 k f fd ps (spR P F)) (hr : Room k X.A) (hm : X.mg x = some (.ref f)) (hk : PySem.W.keepIn X.K (.ref f) = true) (hb : Binds X.K fd ps []) (h0 : PE X (.Name y p0) (tVar i)) (ha : FA X P es ma)
    (hg : Gl X x := by rfl) (hdb : (x == ("__debug__" : Str)) = false := by decide) (he : starEach (.Name y p0 :: es) X.env = (false, eval (.Name y p0) X.env) :: starEach es X.env := by rfl) (hpl : (backTo pos (starEach es X.env)).any (·.1) = false := by rfl) :
    FE X P (.Call (.Name x p) (.Name y p0 :: es) [] pos) (mCallR i F ma) := by
  refine PE.imp (pe_call G hr hg hm hk hb .nil pass0 (pa_cons h0 ha he) hdb he hpl) ?_
  rintro σ H Q ⟨M, r, ss, rw, z, rw', I, e, q⟩
  unfold mCallR at e
  split at e
  next hi =>
    split at e
    next xs rw1 e1 =>
      obtain ⟨a, rfl, hs⟩ := I.rs i hi
      refine ⟨_, hs, M, some a, ss, rw, xs, rw1, I, e1, fun vs H1 k1 I1 hv => ?_⟩
      show spR P F ((V.ref a :: vs) ++ []) H1 Q E0
      rw [List.append_nil]
      have hM : ¬ M a := (I1.rk a rfl).1
      -- the callee's mask: what is hidden, but for the row
      let M1 : Addr → Prop := fun b => M b ∨ Own σ ss b
      have eq1 : ∀ b, (M1 b ∨ some a = some b) ↔ Msk M (some a) σ ss b := fun b => by
        constructor
        · rintro ((z | z) | z)
          · exact .inl z
          · exact .inr (.inr z)
          · exact .inr (.inl z)
        · rintro (z | z | z)
          · exact .inl (.inl z)
          · exact .inr z
          · exact .inl (.inr z)
      have na : ¬ M1 a := fun z => by
        rcases z with z | z
        · exact hM z
        · obtain ⟨j, ds, g1, g2⟩ := z
          obtain ⟨a', _, g3, _, _, _, g4⟩ := I1.ow j ds g1
          rw [g2] at g3
          cases g3
          exact g4 rfl
      have hra : RowAt P M1 (some a) H1 rw1 := fun b hb => by
        obtain ⟨_, sa, g1, g2⟩ := I1.rk b hb
        exact ⟨sa, g1, (mk_sub fun c z => (eq1 c).mp z).seq g2⟩
      refine ⟨M1, a, vs, xs, rw1, z, rw', rfl, na, fun b z => I1.alloc b ((eq1 b).mp (.inl z)), hra, VRs.mono (mk_sub fun c z => (eq1 c).mp z) hv, e, fun v H2 k2 ra2 h2 => ?_⟩
      refine q v H2 (k1.trans k2) ?_ (VR.mono (mk_sub fun c z => (eq1 c).mpr z) h2)
      refine I1.back (fun b o e n _ => k2 b o e n) (k2.live I1) fun b hb => ?_
      obtain ⟨sa, g1, g2⟩ := ra2 b hb
      exact ⟨sa, g1, (mk_sub fun c z => (eq1 c).mpr z).seq g2⟩
    next => cases e
  next => cases e

/-! ### calls that may raise -/
def tEX (P : Pm) (fx : Nat → Addr) (W : WX) (m : Mx Res) : TE := fun σ H Q => ∃ M r ss rw x rw', ER P M r σ H ss rw ∧ m ss rw = some (x, rw') ∧ (match x with
  | .ok y => ∀ v H', KeepR r H H' → ER P M r σ H' ss rw' → VR P (hdn (Msk M r σ ss) H') v y → Q v H'
  | .er ex => ∀ cls d H', KeepR r H H' → ER P M r σ H' ss rw' → ExR P fx ex cls d H' → W cls d σ H')
def mCallX (F : List Vl → Option Res) (ma : Mx (List Vl)) : Mx Res := bnd ma fun xs => opt (F xs)
theorem fx_call {F : List Vl → Option Res} (G : FnOk X.prog X.w X.K X.mg X.base (L2.CX X.prog X.w) k f fd ps (spX P fx F)) (hr : Room k X.A) (hm : X.mg x = some (.ref f)) (hk : PySem.W.keepIn X.K (.ref f) = true) (hb : Binds X.K fd ps []) (tk : Takes X W) (ha : FA X P (e :: es) ma)
    (hg : Gl X x := by rfl) (hdb : (x == ("__debug__" : Str)) = false := by decide) (he : starEach (e :: es) X.env = (false, eval e X.env) :: starEach es X.env := by rfl) (hpl : (backTo pos (starEach es X.env)).any (·.1) = false := by rfl) :
    PE X (.Call (.Name x p) (e :: es) [] pos) (tEX P fx W (mCallX F ma)) := by
  refine PE.imp (pe_callS G hr hg hm hk hb (fun σ => passAt tk σ) ha hdb he hpl) ?_
  rintro σ H Q ⟨M, r, ss, rw, z, rw', I, e, q⟩
  obtain ⟨xs, rw1, e1, e⟩ := bnd_some e
  obtain ⟨e2, rfl⟩ := opt_some e
  refine ⟨M, r, ss, rw, xs, _, I, e1, fun vs H1 k1 I1 hv => ⟨_, xs, z, I1.alloc, hv, e2, ?_⟩⟩
  cases z with
  | ok y => exact fun v H2 s2 h2 => q v H2 (k1.trans (KeepR.of s2)) (I1.grow s2) h2
  | er ex => exact fun cls d H2 s2 h2 => q cls d H2 (k1.trans (KeepR.of s2)) (I1.grow s2) h2
/-- the same where it does not raise -/
def mOk (m : Mx Res) : Mx Vl := bnd m fun x => match x with
  | .ok y => pur y
  | .er _ => opt none
theorem fe_ok {e : Expr} {m : Mx Res} (h : PE X e (tEX P fx W m)) : FE X P e (mOk m) := by
  refine PE.imp h ?_
  rintro σ H Q ⟨M, r, ss, rw, z, rw', I, e, q⟩
  obtain ⟨x, rw1, e1, e⟩ := bnd_some e
  cases x with
  | ok y =>
    obtain ⟨rfl, rfl⟩ := pur_some e
    exact ⟨M, r, ss, rw, _, _, I, e1, q⟩
  | er ex => cases (opt_some e).1
def sDropX (m : Mx Res) : Sx := fun ss rw => match m ss rw with
  | some (.ok _, rw1) => some (.nx ss rw1)
  | some (.er ex, rw1) => some (.er ex ss rw1)
  | none => none
theorem fs_exprX {e : Expr} {m : Mx Res} {pos : Pos} (he : PE X e (tEX P fx W m)) (hs : swapsWith e none pos.line X.env = pure false := by rfl) : FS X P fx W (.Expr e pos) (sDropX m) := by
  refine PS.imp (ps_expr he hs) ?_
  rintro D σ H ⟨M, r, ss, rw, o, I, e, q⟩
  unfold sDropX at e
  split at e
  next x rw1 e1 =>
    cases e
    exact ⟨M, r, ss, rw, _, rw1, I, e1, fun v H1 k1 I1 hv => q σ H1 (Gr.ofR k1 I1) I1⟩
  next ex rw1 e1 =>
    cases e
    exact ⟨M, r, ss, rw, _, rw1, I, e1, fun cls d H1 k1 I1 hx => q σ cls d H1 (Gr.ofR k1 I1) I1 hx⟩
  next => cases e
def sRetX (m : Mx Res) : Sx := fun ss rw => match m ss rw with
  | some (.ok x, rw1) => some (.rt x rw1)
  | some (.er ex, rw1) => some (.er ex ss rw1)
  | none => none
theorem fs_retX {e : Expr} {m : Mx Res} {pos : Pos} (he : PE X e (tEX P fx W m)) : FS X P fx W (.Return (some e) pos) (sRetX m) := by
  refine PS.imp (ps_ret he) ?_
  rintro D σ H ⟨M, r, ss, rw, o, I, e, q⟩
  unfold sRetX at e
  split at e
  next x rw1 e1 =>
    cases e
    exact ⟨M, r, ss, rw, _, rw1, I, e1, fun v H1 k1 I1 hv => q v H1 (Gr.ofR (ss := ss) k1 I1).keep (Gr.ofR (ss := ss) k1 I1).live I1.rowAt (VR.mono (mk_sub msk_out) hv)⟩
  next ex rw1 e1 =>
    cases e
    exact ⟨M, r, ss, rw, _, rw1, I, e1, fun cls d H1 k1 I1 hx => q σ cls d H1 (Gr.ofR k1 I1) I1 hx⟩
  next => cases e
def sSetX (i : Nat) (m : Mx Res) : Sx := fun ss rw => match m ss rw with
  | some (.ok x, rw1) => (match putS i (.vl x) ss with
    | some ss1 => some (.nx ss1 rw1)
    | none => none)
  | some (.er ex, rw1) => some (.er ex ss rw1)
  | none => none
theorem fs_setX {i : Nat} {y : Str} {e : Expr} {m : Mx Res} {pos pos' : Pos} (hi : X.N[i]? = some y) (hx : Loc X.env.scope y) (he : PE X e (tEX P fx W m)) (hN : X.N.Nodup) (hf : X.fn y = true ∨ X.env.scope.names.lookup y = some .local) (hs : swapsWith e (some (.Name y pos')) pos.line X.env = pure false := by rfl) :
    FS X P fx W (.Assign [.Name y pos'] e pos) (sSetX i m) := by
  refine PS.imp (ps_set hN hi hx he hs hf) ?_
  rintro D σ H ⟨M, r, ss, rw, o, I, e, q⟩
  unfold sSetX at e
  split at e
  next x rw1 e1 =>
    unfold putS at e
    split at e
    next ss1 e2 =>
      split at e2
      next hi =>
        cases e2
        cases e
        exact ⟨M, r, ss, rw, _, rw1, I, e1, fun v H1 k1 I1 hv => q _ H1 ((Gr.ofR k1 I1).trans Gr.setv) (I1.setv hi hv)⟩
      next => cases e2
    next => cases e
  next ex rw1 e1 =>
    cases e
    exact ⟨M, r, ss, rw, _, rw1, I, e1, fun cls d H1 k1 I1 hx => q σ cls d H1 (Gr.ofR k1 I1) I1 hx⟩
  next => cases e
end
end FL
/-! isinstance; reads of lists that may be own; defs by name. -/
namespace FL
open PySem L2
theorem hu64 {k : Nat} {A : Around} (r : Room k A) : A.units + 64 < cLine := r.units
theorem hu65 {k : Nat} {A : Around} (r : Room k A) : A.units + 65 < cLine := by have := r.un; omega
section
variable {P : Pm} {X : Cx}
/-! ### isinstance -/
def tyN : PyData → String
  | .none => "NoneType"
  | .bool _ => "bool"
  | .int _ => "int"
  | .str _ => "str"
  | .list _ => "list"
  | .tuple _ => "tuple"
  | .dict _ => "dict"
theorem dr_ty {K : PySem.W.Frag} {H : Hp} {v : V} {d : PyData} (h : DR K H v d) : TyX K H v (.type (tyN d)) := by
  cases h with
  | non => exact .base .non
  | bl b => exact .base (.bl b)
  | int i => exact .base (.int i)
  | str x => exact .base (.str x)
  | lst a b => exact .base (.lst a)
  | tup a b =>
    rcases a with (a | ⟨o, a⟩) | ⟨o, its, n, a, c, _⟩
    · exact .base (.tup a)
    · exact .fTuple a
    · exact .kTuple a c
/-- is a thing of the first type one of the second -/
def isTy (a b : String) : Bool := a == b || (a == "bool" && b == "int")
def okTy : List String := ["tuple", "list", "bool", "str", "int"]
def noDict : PyData → Bool
  | .dict _ => false
  | _ => true
theorem kit_all : ∀ (d : PyData) (b : String), b ∈ okTy → noDict d = true → kitB (tyN d) b = some (isTy (tyN d) b) := by
  intro d b hb hd
  have h2 : ∀ a ∈ ["NoneType", "bool", "int", "str", "list", "tuple"], ∀ b ∈ okTy, kitB a b = some (isTy a b) := by decide +kernel
  refine h2 _ ?_ b hb
  cases d <;> first
    | (simp [tyN]; done)
    | cases hd
theorem dr_nodict {K : PySem.W.Frag} {H : Hp} {v : V} {d : PyData} (h : DR K H v d) : noDict d = true := by
  cases h <;> rfl
def isiD (T : String) : Vl → Option Vl
  | .dat d => some (.dat (.bool (isTy (tyN d) T)))
  | .hse _ _ => none
theorem fe_isi {T : String} {x2 : Str} {a : Expr} {fa : Mx Vl} {p p2 pos : Pos} (ha : FE X P a fa) (hm : X.mg "isinstance" = none) (hT : T ∈ okTy) (hm2 : X.mg x2 = none) (hv2 : bootBuiltins x2 = some (.type T)) (hK : X.K = P.K := by rfl) (hg : Gl X "isinstance" := by rfl) (hg2 : Gl X x2 := by rfl)
    (hn2 : x2 ≠ "__name__" := by decide) (hd2 : (x2 == ("__debug__" : Str)) = false := by decide) (h1 : starEach [a, .Name x2 p2] X.env = (false, eval a X.env) :: starEach [.Name x2 p2] X.env := by rfl) (h2 : starEach [.Name x2 p2] X.env = (false, eval (.Name x2 p2) X.env) :: starEach [] X.env := by rfl)
    (hpl : (backTo pos (starEach [.Name x2 p2] X.env)).any (·.1) = false := by rfl) : FE X P (.Call (.Name "isinstance" p) [a, .Name x2 p2] [] pos) (m1 (isiD T) fa) := by
  refine PE.imp (pe_callB call_isi hg hm (by decide +kernel) (pa_cons ha (pa_cons (pe_bltn (v := .ty T) hg2 hm2 hv2 rfl hn2 hd2) pa_nil h2) h1) (by decide) (by decide) h1 hpl) ?_
  rw [hK]
  rintro σ H Q ⟨M, r, ss, rw, z, rw', I, e, q⟩
  obtain ⟨y, rw1, e1, e⟩ := bnd_some e
  obtain ⟨e2, rfl⟩ := opt_some e
  refine ⟨M, r, ss, rw, y, _, I, e1, fun v H1 k1 I1 hv => ?_⟩
  unfold isiD at e2
  split at e2
  next d =>
    cases e2
    have hv : DR P.K (hdn (Msk M r σ ss) H1) v d := hv
    have hv' := dr_mono (mk_le _ H1) _ _ hv
    exact ⟨v, .ty T, _, _, _, rfl, .ty T, dr_ty hv', kit_ty (kit_all d T hT (dr_nodict hv')), q _ H1 k1 I1 (DR.bl _)⟩
  next => cases e2
/-- isinstance(x, (T, U)) -/
def isi2D (T U : String) : Vl → Option Vl
  | .dat d => some (.dat (.bool (isTy (tyN d) T || isTy (tyN d) U)))
  | .hse _ _ => none
theorem fe_isi2 {T U : String} {x2 x3 : Str} {a : Expr} {fa : Mx Vl} {p p2 p3 p4 pos : Pos} {kk : Nat} (ha : FE X P a fa) (hm : X.mg "isinstance" = none) (hT : T ∈ okTy) (hU : U ∈ okTy) (hm2 : X.mg x2 = none) (hv2 : bootBuiltins x2 = some (.type T)) (hm3 : X.mg x3 = none) (hv3 : bootBuiltins x3 = some (.type U)) (hK : X.K = P.K := by rfl)
    (hg : Gl X "isinstance" := by rfl) (hg2 : Gl X x2 := by rfl) (hg3 : Gl X x3 := by rfl)
    (hn2 : x2 ≠ "__name__" := by decide) (hd2 : (x2 == ("__debug__" : Str)) = false := by decide) (hn3 : x3 ≠ "__name__" := by decide) (hd3 : (x3 == ("__debug__" : Str)) = false := by decide)
    (h1 : starEach [a, .Tuple [.Name x2 p2, .Name x3 p3] kk p4] X.env = (false, eval a X.env) :: starEach [.Tuple [.Name x2 p2, .Name x3 p3] kk p4] X.env := by rfl)
    (h2 : starEach [.Tuple [.Name x2 p2, .Name x3 p3] kk p4] X.env = (false, eval (.Tuple [.Name x2 p2, .Name x3 p3] kk p4) X.env) :: starEach [] X.env := by rfl)
    (h3 : starEach [.Name x2 p2, .Name x3 p3] X.env = (false, eval (.Name x2 p2) X.env) :: starEach [.Name x3 p3] X.env := by rfl) (h4 : starEach [.Name x3 p3] X.env = (false, eval (.Name x3 p3) X.env) :: starEach [] X.env := by rfl)
    (hpl : (backTo pos (starEach [.Tuple [.Name x2 p2, .Name x3 p3] kk p4] X.env)).any (·.1) = false := by rfl) :
    FE X P (.Call (.Name "isinstance" p) [a, .Tuple [.Name x2 p2, .Name x3 p3] kk p4] [] pos) (m1 (isi2D T U) fa) := by
  refine PE.imp (pe_callB call_isiT hg hm (by decide +kernel) (pa_cons ha (pa_cons (pe_tup (pa_cons (pe_bltn (v := .ty T) hg2 hm2 hv2 rfl hn2 hd2) (pa_cons (pe_bltn (v := .ty U) hg3 hm3 hv3 rfl hn3 hd3) pa_nil h4) h3)) pa_nil h2) h1) (by decide) (by decide) h1 hpl) ?_
  rw [hK]
  rintro σ H Q ⟨M, r, ss, rw, z, rw', I, e, q⟩
  obtain ⟨y, rw1, e1, e⟩ := bnd_some e
  obtain ⟨e2, rfl⟩ := opt_some e
  refine ⟨M, r, ss, rw, y, _, I, e1, fun v H1 k1 I1 hv => ⟨by show 2 ≤ sizeLine; decide, fun tp htp => ?_⟩⟩
  unfold isi2D at e2
  split at e2
  next d =>
    cases e2
    have hv : DR P.K (hdn (Msk M r σ ss) H1) v d := hv
    have s3 : Same H1 (upd H1 tp (.tup [.ty T, .ty U])) := upd_same' htp
    have hv' := dr_mono s3 _ _ (dr_mono (mk_le _ H1) _ _ hv)
    have nd := dr_nodict hv'
    refine ⟨v, tp, _, _, _, _, rfl, upd_same, .cons (.ty T) (.cons (.ty U) .nil), dr_ty hv', ?_, q _ _ (k1.trans (KeepR.of s3)) (I1.grow s3) (DR.bl _)⟩
    refine kitAny_cons (kit_ty (kit_all d T hT nd)) (fun hf => ?_) fun ht => by rw [ht]; rfl
    rw [hf, Bool.false_or]
    exact kitAny_cons (kit_ty (kit_all d U hU nd)) (fun hf => by rw [hf]; exact kitAny_nil) fun ht => ht
  next => cases e2

/-! ### a list that may be own -/
def mIxV (i : Nat) (fb : Mx Vl) : Mx Vl := bnd fb fun y => fun ss rw => match ss[i]? with
  | some (.own ds) => (match y with
    | .dat (.int k) => (match atI ds k with
      | some d => some (.dat d, rw)
      | none => none)
    | _ => none)
  | some (.vl x) => (match ixD x y with
    | some z => some (z, rw)
    | none => none)
  | _ => none
theorem fe_ixV {i : Nat} {x : Str} {b : Expr} {fb : Mx Vl} {p0 pos : Pos} (hv : PE X (.Name x p0) (tVar i)) (hb : FE X P b fb) (hK : X.K = P.K := by rfl) (hs : PlainIx b := by exact (fun _ _ => rfl)) : FE X P (.Subscript (.Name x p0) b pos) (mIxV i fb) := by
  refine PE.imp (pe_ix ix_seq hv hb hs) ?_
  rw [hK]
  rintro σ H Q ⟨M, r, ss, rw, z, rw', I, e, q⟩
  obtain ⟨y, rw1, e1, e⟩ := bnd_some e
  split at e
  next ds hi =>
    split at e
    next k =>
      split at e
      next d ed =>
        cases e
        obtain ⟨p, vs, h1, h2, h3, h4, h5⟩ := I.ow i ds hi
        refine ⟨_, h1, M, r, ss, rw, _, _, I, e1, fun u H1 k1 I1 hu => ?_⟩
        obtain ⟨p', vs', g1, g2, g3, _⟩ := I1.ow i ds hi
        rw [h1] at g1
        cases g1
        rw [vr_int hu]
        obtain ⟨w, w1, w2⟩ := atI_all g3 ed
        exact .inl ⟨p, vs', k, w, rfl, rfl, SqL.of g2, w1, q w H1 k1 I1 w2⟩
      next => cases e
    next => cases e
  next x hi =>
    split at e
    next z' ez =>
      cases e
      obtain ⟨v, h1, h2⟩ := I.sl i x hi
      refine ⟨v, h1, M, r, ss, rw, _, _, I, e1, fun u H1 k1 I1 hu => ?_⟩
      exact ok_ix (Msk M r σ ss) H1 v u x y z Q I1.alloc (VR.mono k1.msk h2) hu ez fun w H3 s3 hw => q w H3 (k1.trans (KeepR.of s3)) (I1.grow s3) hw
    next => cases e
  next => cases e

/-! ### defs by name -/
/-- the def of this name stands there, and keeps its promise -/
def Dn (Pg : Program) (w : World) (K : PySem.W.Frag) (mg : Str → Option Value) (base : Heap) (CX : CXT) (k : Nat) (x : Str) (ps : List Str) (sp : Sp) : Prop :=
  ∃ f fd, FnOk Pg w K mg base CX k f fd ps sp ∧ mg x = some (.ref f) ∧ PySem.W.keepIn K (.ref f) = true ∧ Binds K fd ps []
/-- the def's text stands under its name -/
def Hr (K : PySem.W.Frag) (mg : Str → Option Value) (x : Str) (st : Stmt) : Prop := ∃ f fd, Fun K x x st f fd ∧ mg x = some (.ref f)
end
section
variable {P : Pm} {X : Cx} {fx : Nat → Addr} {W : WX} {k : Nat} {ps : List Str} {x : Str} {p pos : Pos} {e : Expr} {es : List Expr} {ma : Mx (List Vl)}
theorem fe_callD {F : List Vl → Option Vl} (D : Dn X.prog X.w X.K X.mg X.base CX0 k x ps (spP P F)) (hr : Room k X.A) (ha : FA X P (e :: es) ma)
    (hg : Gl X x := by rfl) (hdb : (x == ("__debug__" : Str)) = false := by decide) (he : starEach (e :: es) X.env = (false, eval e X.env) :: starEach es X.env := by rfl) (hpl : (backTo pos (starEach es X.env)).any (·.1) = false := by rfl) :
    FE X P (.Call (.Name x p) (e :: es) [] pos) (mCall F ma) := by
  obtain ⟨f, fd, G, h1, h2, h3⟩ := D
  exact fe_call G hr h1 h2 h3 ha hg hdb he hpl
theorem fl_callD {F : List Vl → Option (List PyData)} (D : Dn X.prog X.w X.K X.mg X.base CX0 k x ps (spL P F)) (hr : Room k X.A) (ha : FA X P (e :: es) ma)
    (hg : Gl X x := by rfl) (hdb : (x == ("__debug__" : Str)) = false := by decide) (he : starEach (e :: es) X.env = (false, eval e X.env) :: starEach es X.env := by rfl) (hpl : (backTo pos (starEach es X.env)).any (·.1) = false := by rfl) :
    FL X P (.Call (.Name x p) (e :: es) [] pos) (mCallL F ma) := by
  obtain ⟨f, fd, G, h1, h2, h3⟩ := D
  exact fl_call G hr h1 h2 h3 ha hg hdb he hpl
theorem fe_callRD {F : List Vl → Ro → Option (Vl × Ro)} {i : Nat} {y : Str} {p0 : Pos} (D : Dn X.prog X.w X.K X.mg X.base CX0 k x ps (spR P F)) (hr : Room k X.A) (h0 : PE X (.Name y p0) (tVar i)) (ha : FA X P es ma)
    (hg : Gl X x := by rfl) (hdb : (x == ("__debug__" : Str)) = false := by decide) (he : starEach (.Name y p0 :: es) X.env = (false, eval (.Name y p0) X.env) :: starEach es X.env := by rfl) (hpl : (backTo pos (starEach es X.env)).any (·.1) = false := by rfl) :
    FE X P (.Call (.Name x p) (.Name y p0 :: es) [] pos) (mCallR i F ma) := by
  obtain ⟨f, fd, G, h1, h2, h3⟩ := D
  exact fe_callR G hr h1 h2 h3 h0 ha hg hdb he hpl
theorem fx_callD {F : List Vl → Option Res} (D : Dn X.prog X.w X.K X.mg X.base (L2.CX X.prog X.w) k x ps (spX P fx F)) (hr : Room k X.A) (tk : Takes X W) (ha : FA X P (e :: es) ma)
    (hg : Gl X x := by rfl) (hdb : (x == ("__debug__" : Str)) = false := by decide) (he : starEach (e :: es) X.env = (false, eval e X.env) :: starEach es X.env := by rfl) (hpl : (backTo pos (starEach es X.env)).any (·.1) = false := by rfl) :
    PE X (.Call (.Name x p) (e :: es) [] pos) (tEX P fx W (mCallX F ma)) := by
  obtain ⟨f, fd, G, h1, h2, h3⟩ := D
  exact fx_call G hr h1 h2 h3 tk ha hg hdb he hpl
end
section
variable {Pg : Program} {w : World} {K : PySem.W.Frag} {mg : Str → Option Value} {base : Heap} {P : Pm} {fx : Nat → Addr} {x : Str} {st : Stmt} {N ps : List Str} {k : Nat} {m : Sx}
abbrev Bnd (ps : List Str) (x : Str) (st : Stmt) : Prop := ∀ (kV doc pm : Value) (an : Option Addr) (cdv ct : Value) (us : List Value), us.length = ps.length → bindArgs (PySem.W.fnOf x x (defArgs st) (defBody st) (defScope st) .none kV doc pm an cdv ct) ⟨us, []⟩ = pure (ps.zip us)
theorem dn_P (h : Hr K mg x st) (S : FnScope N ps (defScope st)) (hk : ps.length ≤ N.length) (B : Bnd ps x st)
    (hb : ∀ (f : Addr) (cdv : Value) (A : Around) (outer : List Env) (s : Shared) (H : Hp) (E : XK), Room k (A.deeper (PyProof.Rows.envOfC x (defScope st) s.heap.objs.size f cdv)) → FSs (cxOf CX0 Pg w K mg base N x (defScope st) f cdv A outer s H E).nox P fx W0 (defBody st) m) :
    Dn Pg w K mg base CX0 (k + 1) x ps (spP P (bodyP N.length ps.length m)) := by
  obtain ⟨f, fd, F, h1⟩ := h
  exact ⟨f, fd, fn_P F S hk fun cdv A outer s H E hr => hb f cdv A outer s H E hr, h1, F.kp, F.binds B⟩
theorem dn_L (h : Hr K mg x st) (S : FnScope N ps (defScope st)) (hk : ps.length ≤ N.length) (B : Bnd ps x st)
    (hb : ∀ (f : Addr) (cdv : Value) (A : Around) (outer : List Env) (s : Shared) (H : Hp) (E : XK), Room k (A.deeper (PyProof.Rows.envOfC x (defScope st) s.heap.objs.size f cdv)) → FSs (cxOf CX0 Pg w K mg base N x (defScope st) f cdv A outer s H E).nox P fx W0 (defBody st) m) :
    Dn Pg w K mg base CX0 (k + 1) x ps (spL P (bodyL N.length ps.length m)) := by
  obtain ⟨f, fd, F, h1⟩ := h
  exact ⟨f, fd, fn_L F S hk fun cdv A outer s H E hr => hb f cdv A outer s H E hr, h1, F.kp, F.binds B⟩
theorem dn_R (h : Hr K mg x st) (S : FnScope N ps (defScope st)) (hk : ps.length ≤ N.length) (h0 : 0 < ps.length) (B : Bnd ps x st)
    (hb : ∀ (f : Addr) (cdv : Value) (A : Around) (outer : List Env) (s : Shared) (H : Hp) (E : XK), Room k (A.deeper (PyProof.Rows.envOfC x (defScope st) s.heap.objs.size f cdv)) → FSs (cxOf CX0 Pg w K mg base N x (defScope st) f cdv A outer s H E).nox P fx W0 (defBody st) m) :
    Dn Pg w K mg base CX0 (k + 1) x ps (spR P (bodyR N.length (ps.length - 1) m)) := by
  obtain ⟨f, fd, F, h1⟩ := h
  exact ⟨f, fd, fn_R F S hk h0 fun cdv A outer s H E hr => hb f cdv A outer s H E hr, h1, F.kp, F.binds B⟩
theorem dn_X (h : Hr K mg x st) (S : FnScope N ps (defScope st)) (hk : ps.length ≤ N.length) (B : Bnd ps x st)
    (hb : ∀ (f : Addr) (cdv : Value) (A : Around) (outer : List Env) (s : Shared) (H : Hp) (E : XK), Room k (A.deeper (PyProof.Rows.envOfC x (defScope st) s.heap.objs.size f cdv)) →
      FSs (cxOf (L2.CX Pg w) Pg w K mg base N x (defScope st) f cdv A outer s H E) P fx (fun cls d _ H => E cls d H) (defBody st) m) :
    Dn Pg w K mg base (L2.CX Pg w) (k + 1) x ps (spX P fx (bodyX N.length ps.length m)) := by
  obtain ⟨f, fd, F, h1⟩ := h
  exact ⟨f, fd, fn_X F S hk fun cdv A outer s H E hr => hb f cdv A outer s H E hr, h1, F.kp, F.binds B⟩
end
end FL
/-! Constants of the module, dicts of the module, what the printed terms want besides. -/
namespace FL
open PySem L2
section
variable {P : Pm} {X : Cx} {fx : Nat → Addr} {W : WX} {x : Str} {pos : Pos}
theorem tE_list {ml : Mx (List PyData)} {σ : St} {H : Hp} {Q : VK} (h : tE P (mList ml) σ H Q) : tL P ml σ H Q := by
  obtain ⟨M, r0, ss, rw, z, rw', I, e, q⟩ := h
  obtain ⟨ds, rw1, e1, e⟩ := bnd_some e
  obtain ⟨rfl, rfl⟩ := pur_some e
  refine ⟨M, r0, ss, rw, ds, _, I, e1, fun p vs H1 k1 I1 hp h1 ha => q _ H1 k1 I1.unhide ?_⟩
  refine DR.lst (mk_at (not_S I.alloc hp) h1) (drAll_mono (mk_sub fun a z => ?_) _ _ ha)
  rcases z with z | z | z
  · exact .inl (.inl z)
  · exact .inr (.inl z)
  · exact .inr (.inr z)
theorem fs_own {i : Nat} {e : Expr} {ml : Mx (List PyData)} {pos' : Pos} (hi : X.N[i]? = some x) (hx : Loc X.env.scope x) (he : FL X P e ml) (hN : X.N.Nodup) (hf : X.fn x = true ∨ X.env.scope.names.lookup x = some .local) (hs : swapsWith e (some (.Name x pos')) pos.line X.env = pure false := by rfl) :
    FS X P fx W (.Assign [.Name x pos'] e pos) (sOwn i ml) := PS.imp (ps_set hN hi hx he hs hf) (tS_own fun _ _ _ h => h)
theorem fe_globI {n : Int} (h : ∃ t, X.mg x = some (.int n t)) (hg : Gl X x := by rfl) (hd : (x == ("__debug__" : Str)) = false := by decide) : FE X P (.Name x pos) (mC (.int n)) := by
  obtain ⟨t, h⟩ := h
  exact fe_glob (v := .int n) h ⟨t, rfl⟩ (fun _ => .int n) hg hd
theorem fe_globS {z : Str} (h : ∃ t, X.mg x = some (.str z t)) (hg : Gl X x := by rfl) (hd : (x == ("__debug__" : Str)) = false := by decide) : FE X P (.Name x pos) (mC (.str z)) := by
  obtain ⟨t, h⟩ := h
  exact fe_glob (v := .str z) h ⟨t, rfl⟩ (fun _ => .str z) hg hd
theorem fe_globT {d : PyData} (h : ∃ a, X.mg x = some (.ref a) ∧ ∀ H, DR X.K H (.ref a) d) (hK : X.K = P.K := by rfl) (hg : Gl X x := by rfl) (hd : (x == ("__debug__" : Str)) = false := by decide) : FE X P (.Name x pos) (mC d) := by
  obtain ⟨a, h, hr⟩ := h
  refine fe_glob h (v := .ref a) rfl (fun H => ?_) hg hd
  rw [← hK]
  exact hr H
/-! ### a dict of the module: text keys, ints -/
def Gd (K : PySem.W.Frag) (w : World) (mg : Str → Option Value) (x : Str) (kvs : List (Str × Int)) : Prop := ∃ a es n, mg x = some (.ref a) ∧ KDict K w a es n ∧
  ∀ z, (kvs.lookup z = none → PySem.W.nsIn K a z = some none) ∧ ∀ v, kvs.lookup z = some v → ∃ t, PySem.W.nsIn K a z = some (some (.int v t))
def inG (kvs : List (Str × Int)) : Vl → Option Vl
  | .dat (.str z) => some (.dat (.bool (kvs.lookup z).isSome))
  | _ => none
def ninG (kvs : List (Str × Int)) : Vl → Option Vl
  | .dat (.str z) => some (.dat (.bool (!(kvs.lookup z).isSome)))
  | _ => none
def ixG (kvs : List (Str × Int)) : Vl → Option Vl
  | .dat (.str z) => match kvs.lookup z with
    | some v => some (.dat (.int v))
    | none => none
  | _ => none
theorem gd_look {K : PySem.W.Frag} {a : Addr} {kvs : List (Str × Int)} (h : ∀ z, (kvs.lookup z = none → PySem.W.nsIn K a z = some none) ∧ ∀ v, kvs.lookup z = some v → ∃ t, PySem.W.nsIn K a z = some (some (.int v t))) (z : Str) :
    ∃ r, PySem.W.nsIn K a z = some r ∧ r.isSome = (kvs.lookup z).isSome := by
  cases e : kvs.lookup z with
  | none => exact ⟨none, (h z).1 e, rfl⟩
  | some v =>
    obtain ⟨t, g⟩ := (h z).2 v e
    exact ⟨_, g, rfl⟩
section
variable {kvs : List (Str × Int)} {e : Expr} {fa : Mx Vl} {p2 : Pos}
theorem tE_inG (r : R2) (g : Vl → Option Vl) {u : V} (hr : ∀ (H : Hp) (z : Str) (Q : VK) (w : Vl), g (.dat (.str z)) = some w → (∀ b, w = .dat (.bool b) → Q (.bl b) H) → r (.str z) u H Q) (hg : ∀ y w, g y = some w → ∃ z b, y = .dat (.str z) ∧ w = .dat (.bool b)) :
    ∀ σ H Q, tE P (m1 g fa) σ H Q → tOp r (tE P fa) (tC u) σ H Q := by
  rintro σ H Q ⟨M, r0, ss, rw, z, rw', I, e, q⟩
  obtain ⟨y, rw1, e1, e⟩ := bnd_some e
  obtain ⟨e2, rfl⟩ := opt_some e
  refine ⟨M, r0, ss, rw, y, _, I, e1, fun v H1 k1 I1 hv => ?_⟩
  obtain ⟨s, b, rfl, rfl⟩ := hg y z e2
  show r v u H1 Q
  rw [vr_str hv]
  exact hr H1 s Q _ e2 fun b' hb => by cases hb; exact q _ H1 k1 I1 (DR.bl _)
theorem inG_of {y w : Vl} (h : inG kvs y = some w) : ∃ z b, y = .dat (.str z) ∧ w = .dat (.bool b) := by
  unfold inG at h
  split at h
  next z => cases h; exact ⟨z, _, rfl, rfl⟩
  next => cases h
theorem ninG_of {y w : Vl} (h : ninG kvs y = some w) : ∃ z b, y = .dat (.str z) ∧ w = .dat (.bool b) := by
  unfold ninG at h
  split at h
  next z => cases h; exact ⟨z, _, rfl, rfl⟩
  next => cases h
theorem fe_inG (h : Gd X.K X.w X.mg x kvs) (he : FE X P e fa) (hg : Gl X x := by rfl) (hd : (x == ("__debug__" : Str)) = false := by decide) (hm : behindInMarks .In (.Name x p2) = false := by with_unfolding_all rfl) : FE X P (.Compare e [.In] [.Name x p2] pos) (m1 (inG kvs) fa) := by
  obtain ⟨a, es, n, h1, h2, h3⟩ := h
  refine PE.imp (pe_cmpR (op_in_kd h2) he (pe_glob hg h1 (v := .ref a) rfl hd) hm) (tE_inG _ _ (fun H z Q w ew qw => ?_) fun y w => inG_of)
  obtain ⟨r, g1, g2⟩ := gd_look h3 z
  refine ⟨z, r, rfl, rfl, g1, ?_⟩
  cases ew
  rw [g2]
  exact qw _ rfl
theorem fe_ninG (h : Gd X.K X.w X.mg x kvs) (he : FE X P e fa) (hg : Gl X x := by rfl) (hd : (x == ("__debug__" : Str)) = false := by decide) (hm : behindInMarks .NotIn (.Name x p2) = false := by with_unfolding_all rfl) : FE X P (.Compare e [.NotIn] [.Name x p2] pos) (m1 (ninG kvs) fa) := by
  obtain ⟨a, es, n, h1, h2, h3⟩ := h
  refine PE.imp (pe_cmpR (op_notIn_kd h2) he (pe_glob hg h1 (v := .ref a) rfl hd) hm) (tE_inG _ _ (fun H z Q w ew qw => ?_) fun y w => ninG_of)
  obtain ⟨r, g1, g2⟩ := gd_look h3 z
  refine ⟨z, r, rfl, rfl, g1, ?_⟩
  cases ew
  rw [g2]
  exact qw _ rfl
theorem ft_inG (h : Gd X.K X.w X.mg x kvs) (he : FE X P e fa) (hg : Gl X x := by rfl) (hd : (x == ("__debug__" : Str)) = false := by decide) (hm : behindInMarks .In (.Name x p2) = false := by with_unfolding_all rfl) : FT X P (.Compare e [.In] [.Name x p2] pos) (mTst (m1 (inG kvs) fa)) := by
  obtain ⟨a, es, n, h1, h2, h3⟩ := h
  refine PT.imp (pt_cmpR (op_in_kd h2) he (pe_glob hg h1 (v := .ref a) rfl hd) hm) (tT_test (tE_inG _ _ (fun H z Q w ew qw => ?_) fun y w => inG_of))
  obtain ⟨r, g1, g2⟩ := gd_look h3 z
  refine ⟨z, r, rfl, rfl, g1, ?_⟩
  cases ew
  rw [g2]
  exact qw _ rfl
theorem ft_ninG (h : Gd X.K X.w X.mg x kvs) (he : FE X P e fa) (hg : Gl X x := by rfl) (hd : (x == ("__debug__" : Str)) = false := by decide) (hm : behindInMarks .NotIn (.Name x p2) = false := by with_unfolding_all rfl) : FT X P (.Compare e [.NotIn] [.Name x p2] pos) (mTst (m1 (ninG kvs) fa)) := by
  obtain ⟨a, es, n, h1, h2, h3⟩ := h
  refine PT.imp (pt_cmpR (op_notIn_kd h2) he (pe_glob hg h1 (v := .ref a) rfl hd) hm) (tT_test (tE_inG _ _ (fun H z Q w ew qw => ?_) fun y w => ninG_of))
  obtain ⟨r, g1, g2⟩ := gd_look h3 z
  refine ⟨z, r, rfl, rfl, g1, ?_⟩
  cases ew
  rw [g2]
  exact qw _ rfl
theorem fe_ixG (h : Gd X.K X.w X.mg x kvs) (he : FE X P e fa) (hg : Gl X x := by rfl) (hd : (x == ("__debug__" : Str)) = false := by decide) (hs : PlainIx e := by exact (fun _ _ => rfl)) : FE X P (.Subscript (.Name x p2) e pos) (m1 (ixG kvs) fa) := by
  obtain ⟨a, es, n, h1, h2, h3⟩ := h
  refine PE.imp (pe_ix ix_kdict (pe_glob hg h1 (v := .ref a) rfl hd) he hs) ?_
  rintro σ H Q ⟨M, r0, ss, rw, z, rw', I, e, q⟩
  obtain ⟨y, rw1, e1, e⟩ := bnd_some e
  obtain ⟨e2, rfl⟩ := opt_some e
  refine ⟨M, r0, ss, rw, y, _, I, e1, fun v H1 k1 I1 hv => ?_⟩
  unfold ixG at e2
  split at e2
  next s =>
    split at e2
    next n ev =>
      cases e2
      rw [vr_str hv]
      obtain ⟨t, g⟩ := (h3 s).2 _ ev
      exact ⟨a, s, .int n, rfl, rfl, ⟨es, _, _, h2.at_, h2.lit, g, ⟨t, rfl⟩⟩, q _ H1 k1 I1 (DR.int _)⟩
    next => cases e2
  next => cases e2
theorem ft_inV {i : Nat} {a : Expr} {p0 : Pos} (ha : FE X P a fa) (hv : PE X (.Name x p0) (tVar i)) (hK : X.K = P.K := by rfl) (hm : behindInMarks .In (.Name x p0) = false := by with_unfolding_all rfl) : FT X P (.Compare a [.In] [.Name x p0] pos) (mTst (mInO i fa)) := by
  refine PT.imp (pt_cmpR op_in_seq ha hv hm) (tT_test ?_)
  rw [hK]
  rintro σ H Q ⟨M, r, ss, rw, z, rw', I, e, q⟩
  obtain ⟨y, rw1, e1, e⟩ := bnd_some e
  refine ⟨M, r, ss, rw, _, _, I, e1, fun u H1 k1 I1 hu => ?_⟩
  split at e
  next ds d hi =>
    split at e
    next v vs ev es =>
      cases e
      obtain ⟨p, ws, h1, h2, h3, h4, h5⟩ := I1.ow i ds hi
      have hu : DR P.K (hdn (Msk M r σ ss) H1) u d := hu
      obtain ⟨rfl, g3⟩ := dvs_dr h3 es
      have := dv_dr hu ev
      subst this
      exact ⟨_, h1, p, ws, rfl, .inl (SqL.of h2), flat_dv hu ev, g3, q _ H1 k1 I1 (DR.bl _)⟩
    next => cases e
  next => cases e
end
theorem passes_own {X : Cx} {E₁ : Value → Shared → Prop} {K : Value → Shared → Prop} (hx : X.xe = fun e s' => wpAny (model X.prog X.w) X.A (leaving X.env e) (fun _ s'' => K e s'') E₁ s') : PassesOwn (model X.prog X.w) X.A X.env X.xe := passes_of hx

/-! ### a house -/
/-- the house at y: its two lists -/
def HouseAt (K : PySem.W.Frag) (C : Addr) (H : Hp) (y : Addr) (ts ties : List PyData) : Prop := ∃ dx l1 l2 us vs, H y = some (.ins C dx (putF "_ties" (.ref l2) (putF "_things" (.ref l1) []))) ∧ H l1 = some (.lst us) ∧ DRAll K H us ts ∧ H l2 = some (.lst vs) ∧ DRAll K H vs ties
theorem HouseAt.mono {K : PySem.W.Frag} {C : Addr} {H H' : Hp} {y : Addr} {ts ties : List PyData} (e : Same H H') (h : HouseAt K C H y ts ties) : HouseAt K C H' y ts ties := by
  obtain ⟨dx, l1, l2, us, vs, h1, h2, h3, h4, h5⟩ := h
  exact ⟨dx, l1, l2, us, vs, e _ _ h1, e _ _ h2, drAll_mono e _ _ h3, e _ _ h4, drAll_mono e _ _ h5⟩
abbrev pm (K : PySem.W.Frag) (ns : List Int) (C : Addr) : Pm := ⟨K, ns, HouseAt K C, HouseAt.mono⟩
theorem hne : ¬ (("_things" : Str) = "_ties") := by decide +kernel
theorem house_no {l1 l2 : Addr} {m : Str} (h1 : ¬ m = "_ties") (h2 : ¬ m = "_things") : (putF "_ties" (V.ref l2) (putF "_things" (V.ref l1) [])).lookup m = none := by
  rw [lookup_putF, if_neg h1, lookup_putF, if_neg h2]
  rfl
/-- a method of the house -/
def Dm (Pg : Program) (w : World) (K : PySem.W.Frag) (mg : Str → Option Value) (base : Heap) (k : Nat) (C : Addr) (m : Str) (sp : Sp) : Prop :=
  ∃ f fd, FnOk Pg w K mg base CX0 k f fd ["self"] sp ∧ Meth K C m f ∧ Binds K fd ["self"] []
def mHse (F : List Vl → Option (List PyData)) (fo : Mx Vl) : Mx (List PyData) := mCallL F (bnd fo fun y => match y with
  | .hse t s => pur [.hse t s]
  | _ => opt none)
theorem fl_hse {ns : List Int} {C : Addr} {F : List Vl → Option (List PyData)} {o : Expr} {fo : Mx Vl} {m : Str} {apos : Pos} {k : Nat} {pl : Sem Bool} (c : Cls X.K C) (D : Dm X.prog X.w X.K X.mg X.base k C m (spL (pm X.K ns C) F)) (hr : Room k X.A) (ho : FE X (pm X.K ns C) o fo)
    (hn1 : ¬ m = ("_ties" : Str) := by decide +kernel) (hn2 : ¬ m = ("_things" : Str) := by decide +kernel)
    (ht : eval (.Call (.Attribute o m apos) [] [] pos) X.env = (do
      let ov ← eval o X.env
      standAt apos.atName
      let (f, first) ← holding [ov] (getMethod ov m pl)
      callWith pos f first (backTo pos (starEach [] X.env)) (backToKw pos (keywordEach [] X.env))) := by rfl) :
    FL X (pm X.K ns C) (.Call (.Attribute o m apos) [] [] pos) (mHse F fo) := by
  obtain ⟨f, fd, G, h1, h2⟩ := D
  refine fl_meth0 G hr c h1 h2 ho (fun H y t s h => ?_) ht
  obtain ⟨dx, l1, l2, us, vs, g1, _⟩ := h
  exact ⟨dx, _, g1, house_no hn1 hn2⟩
end
end FL
/-! zip; the number drawn; a house made and read. -/
namespace FL
open PySem L2
section
variable {P : Pm} {X : Cx} {a b : Expr} {fa fb : Mx Vl}
/-! ### zip of two lists, of two tuples -/
theorem wlk_pair {J : It} {n : Nat} {G : Hp → Prop} {S : Addr → Prop} {H : Hp} {us vs : List V} {ds es : List PyData} (wk : Walk J n G (YPair (fun i => us[i]?) (fun i => vs[i]?))) (hn : n = min us.length vs.length)
    (hG : ∀ S1 H1, Same (hdn S H) (hdn S1 H1) → G H1) (h1 : DRAll P.K (hdn S H) us ds) (h2 : DRAll P.K (hdn S H) vs es) : Wlk P S H J (zpD ds es) := fun S1 H1 s al => by
  have l1 := DRAll.length h1
  have l2 := DRAll.length h2
  have hl : (zpD ds es).length = n := by rw [zpD_len, hn, l1, l2]
  have g := hG S1 H1 s
  refine ⟨fun i hi => ⟨wk.goes i H1 (by rw [← hl]; exact hi) g, fun x H' y => ?_⟩, by rw [hl]; exact wk.stops H1 g⟩
  obtain ⟨T, u, v, e1, e2, e3, e4, e5⟩ := wk.yields i H1 x H' (by rw [← hl]; exact hi) g y
  have e4 : us[i]? = some u := e4
  have e5 : vs[i]? = some v := e5
  have hi' : i < min ds.length es.length := by rw [← zpD_len]; exact hi
  obtain ⟨d, hd⟩ : ∃ d, ds[i]? = some d := ⟨ds[i]'(by omega), List.getElem?_eq_getElem (by omega)⟩
  obtain ⟨e, he⟩ : ∃ e, es[i]? = some e := ⟨es[i]'(by omega), List.getElem?_eq_getElem (by omega)⟩
  obtain ⟨u', g1, g2⟩ := DRAll.get h1 hd
  obtain ⟨v', g3, g4⟩ := DRAll.get h2 he
  rw [e4] at g1
  cases g1
  rw [e5] at g3
  cases g3
  subst e1 e3
  obtain ⟨k1, k2⟩ := new_pair (P := P) al e2 (dr_mono s _ _ g2) (dr_mono s _ _ g4)
  exact ⟨k1, _, zpD_get hd he, k2⟩
theorem walk_zipT {K : PySem.W.Frag} {p q : Addr} {xs ys : List V} {n : Nat} (hn : n = min xs.length ys.length) : Walk (RZ.ItzT K p q) n (fun H => SqT K H p xs ∧ SqT K H q ys) (YPair (fun i => xs[i]?) (fun i => ys[i]?)) := by
  subst hn
  refine ⟨fun i _ hi g => ?_, fun _ g => ⟨xs, ys, g.1, g.2, by omega⟩, fun i H v H' _ g y => ?_⟩
  · have h1 : i < xs.length := by omega
    have h2 : i < ys.length := by omega
    exact ⟨xs, ys, xs[i], ys[i], g.1, g.2, by simp [h1], by simp [h2]⟩
  · obtain ⟨T, x, z, h1, h2, h3, h4, h5⟩ := y
    exact ⟨T, x, z, h1, h2, h3, h4 xs g.1, h5 ys g.2⟩
def mZp (fa fb : Mx Vl) : Mx (List PyData) := bnd fa fun x => bnd fb fun y => opt (match x, y with
  | .dat (.list ds), .dat (.list es) => some (zpD ds es)
  | .dat (.tuple ds), .dat (.tuple es) => some (zpD ds es)
  | _, _ => none)
theorem fi_zip {p pos tpos : Pos} {elts : List Expr} {kk : Nat} (ha : FE X P a fa) (hb : FE X P b fb) (hm : X.mg "zip" = none) (hK : X.K = P.K := by rfl) (hg : Gl X "zip" := by rfl)
    (hs : starEach [a, b] X.env = (false, eval a X.env) :: starEach [b] X.env := by rfl) (hs2 : starEach [b] X.env = (false, eval b X.env) :: starEach [] X.env := by rfl) (hpl : (backTo pos (starEach [b] X.env)).any (·.1) = false := by rfl) :
    FI X P (.Tuple elts kk tpos) (.Call (.Name "zip" p) [a, b] [] pos) (mZp fa fb) := by
  refine PI.imp (RZ.pi_zipA hg hm (pa_cons ha (pa_cons hb pa_nil hs2) hs) hs hpl) ?_
  rw [hK]
  rintro σ H R ⟨M, r0, ss, rw, xs, rw', I, e, q⟩
  obtain ⟨y, rw1, e1, e⟩ := bnd_some e
  obtain ⟨z, rw2, e3, e⟩ := bnd_some e
  obtain ⟨e2, rfl⟩ := opt_some e
  refine ⟨M, r0, ss, rw, _, _, I, e1, fun v H1 k1 I1 hv => ⟨M, r0, ss, _, _, _, I1, e3, fun u H2 k2 I2 hu => ?_⟩⟩
  have hv2 := VR.mono k2.msk hv
  split at e2
  next ds es =>
    cases e2
    obtain ⟨p1, vs, rfl, h1, h2⟩ := vr_lst hv2
    obtain ⟨p2, us, rfl, g1, g2⟩ := vr_lst hu
    refine ⟨p1, p2, vs, us, rfl, .inl ⟨SqL.of (mk_le _ H2 _ _ h1), SqL.of (mk_le _ H2 _ _ g1), q _ H2 (k1.trans k2) I2 ?_⟩⟩
    exact wlk_pair (walk_zip rfl) rfl (fun S1 H3 s => ⟨SqL.of (mk_le _ H3 _ _ (s _ _ h1)), SqL.of (mk_le _ H3 _ _ (s _ _ g1))⟩) h2 g2
  next ds es =>
    cases e2
    obtain ⟨p1, vs, rfl, h1, h2⟩ := vr_tup hv2
    obtain ⟨p2, us, rfl, g1, g2⟩ := vr_tup hu
    refine ⟨p1, p2, vs, us, rfl, .inr ⟨sqT_mono (mk_le _ H2) h1, sqT_mono (mk_le _ H2) g1, q _ H2 (k1.trans k2) I2 ?_⟩⟩
    exact wlk_pair (walk_zipT rfl) rfl (fun S1 H3 s => ⟨sqT_mono (mk_le _ H3) (sqT_mono s h1), sqT_mono (mk_le _ H3) (sqT_mono s g1)⟩) h2 g2
  next => cases e2
end
section
variable {X : Cx} {K : PySem.W.Frag} {ns : List Int} {C : Addr} {fa : Mx Vl} {e : Expr} {pos : Pos}
/-! ### what a house holds -/
def fThs : Vl → Option Vl
  | .hse t _ => some (.dat (.list t))
  | _ => none
def fTis : Vl → Option Vl
  | .hse _ t => some (.dat (.list t))
  | _ => none
theorem fe_fld_things (c : Cls X.K C) (hn : NoAttr X.K C "_things") (he : FE X (pm X.K ns C) e fa) (hb : attributeBase e "_things" X.env (eval e X.env) = eval e X.env := by rfl) : FE X (pm X.K ns C) (.Attribute e "_things" pos) (m1 fThs fa) := by
  refine PE.imp (pe_fld he hb) ?_
  rintro σ H Q ⟨M, r0, ss, rw, z, rw', I, e, q⟩
  obtain ⟨y, rw1, e1, e⟩ := bnd_some e
  obtain ⟨e2, rfl⟩ := opt_some e
  refine ⟨M, r0, ss, rw, y, _, I, e1, fun v H1 k1 I1 hv => ?_⟩
  unfold fThs at e2
  split at e2
  next t s =>
    cases e2
    obtain ⟨y', rfl, dx, l1, l2, us, vs, h1, h2, h3, h4, h5⟩ := hv
    exact ⟨y', C, dx, _, .ref l1, rfl, mk_le _ H1 _ _ h1, c, hn, by rw [lookup_putF, if_neg hne, lookup_putF, if_pos rfl], q _ H1 k1 I1 (DR.lst h2 h3)⟩
  next => cases e2
theorem fe_fld_ties (c : Cls X.K C) (hn : NoAttr X.K C "_ties") (he : FE X (pm X.K ns C) e fa) (hb : attributeBase e "_ties" X.env (eval e X.env) = eval e X.env := by rfl) : FE X (pm X.K ns C) (.Attribute e "_ties" pos) (m1 fTis fa) := by
  refine PE.imp (pe_fld he hb) ?_
  rintro σ H Q ⟨M, r0, ss, rw, z, rw', I, e, q⟩
  obtain ⟨y, rw1, e1, e⟩ := bnd_some e
  obtain ⟨e2, rfl⟩ := opt_some e
  refine ⟨M, r0, ss, rw, y, _, I, e1, fun v H1 k1 I1 hv => ?_⟩
  unfold fTis at e2
  split at e2
  next t s =>
    cases e2
    obtain ⟨y', rfl, dx, l1, l2, us, vs, h1, h2, h3, h4, h5⟩ := hv
    exact ⟨y', C, dx, _, .ref l2, rfl, mk_le _ H1 _ _ h1, c, hn, by rw [lookup_putF, if_pos rfl], q _ H1 k1 I1 (DR.lst h4 h5)⟩
  next => cases e2
/-- list(e): a new list -/
def lstD : Vl → Option (List PyData)
  | .dat (.list ds) => some ds
  | .dat (.tuple ds) => some ds
  | _ => none
theorem fl_listOf {P : Pm} {p : Pos} (he : FE X P e fa) (hm : X.mg "list" = none) (hK : X.K = P.K := by rfl) (hg : Gl X "list" := by rfl) (he0 : starEach [e] X.env = (false, eval e X.env) :: starEach [] X.env := by rfl) (hpl : (backTo pos (starEach [] X.env)).any (·.1) = false := by rfl) :
    FL X P (.Call (.Name "list" p) [e] [] pos) (bnd fa fun x => opt (lstD x)) := by
  refine PE.imp (pe_callTy FL.call_lstD hg hm (by decide +kernel) (pa_cons he pa_nil he0) (by decide) (by decide) he0 hpl) ?_
  rw [hK]
  rintro σ H Q ⟨M, r0, ss, rw, z, rw', I, e, q⟩
  obtain ⟨y, rw1, e1, e⟩ := bnd_some e
  obtain ⟨e2, rfl⟩ := opt_some e
  refine ⟨M, r0, ss, rw, y, _, I, e1, fun v H1 k1 I1 hv => ?_⟩
  have fin : ∀ {us : List V} {l : Addr}, H1 l = none → DRAll P.K (hdn (Msk M r0 σ ss) H1) us z → Q (.ref l) (upd H1 l (.lst us)) := fun {us l} hl hd => by
    have s3 : Same H1 (upd H1 l (.lst us)) := upd_same' hl
    refine q l us _ (k1.trans (KeepR.of s3)) (I1.hideS s3 hl (by rw [upd_same]; simp)) (back_none k1 I1 hl) upd_same (drAll_mono (mk_same fun b u n h => ?_) _ _ hd)
    have nb : b ≠ l := ne_of_none h hl
    refine ⟨fun z => ?_, s3 b u h⟩
    rcases z with (z | z) | z | z
    · exact n (.inl z)
    · exact nb z
    · exact n (.inr (.inl z))
    · exact n (.inr (.inr z))
  unfold lstD at e2
  split at e2
  next ds =>
    cases e2
    obtain ⟨p1, vs, rfl, h1, h2⟩ := vr_lst hv
    exact ⟨p1, vs, rfl, .inl (SqL.of (mk_le _ H1 _ _ h1)), fun l hl => fin hl h2⟩
  next ds =>
    cases e2
    obtain ⟨p1, vs, rfl, h1, h2⟩ := vr_tup hv
    exact ⟨p1, vs, rfl, .inr (sqT_mono (mk_le _ H1) h1), fun l hl => fin hl h2⟩
  next => cases e2
end
/-! ### the house's methods -/
section
variable {Pg : Program} {w : World} {K : PySem.W.Frag} {mg : Str → Option Value} {base : Heap} {ns : List Int} {C : Addr} {f : Addr} {fd : FuncData} {st : Stmt}
theorem spL_eq {P : Pm} {F G : List Vl → Option (List PyData)} {k : Nat} {ps : List Str} (h : FnOk Pg w K mg base CX0 k f fd ps (spL P F)) (e : ∀ xs ds, G xs = some ds → F xs = some ds) : FnOk Pg w K mg base CX0 k f fd ps (spL P G) :=
  h.imp fun vs H Q E ⟨S, xs, ds, h1, h2, h3, h4⟩ => ⟨S, xs, ds, h1, h2, e xs ds h3, h4⟩
theorem spP_eq {P : Pm} {F G : List Vl → Option Vl} {k : Nat} {ps : List Str} (h : FnOk Pg w K mg base CX0 k f fd ps (spP P F)) (e : ∀ xs ds, G xs = some ds → F xs = some ds) : FnOk Pg w K mg base CX0 k f fd ps (spP P G) :=
  h.imp fun vs H Q E ⟨S, xs, ds, h1, h2, h3, h4⟩ => ⟨S, xs, ds, h1, h2, e xs ds h3, h4⟩
end
end FL
/-! zip of a list and a tuple: the two iterators told by what they do (Stp), then one turn, the end, the loop's own record. -/
namespace FL
open PySem L2 PyProof.Rows

/-- an iterator of kind I over a sequence of kind S: what a turn of it does -/
structure Stp (I : Heap → Addr → Addr → Nat → Prop) (S : Heap → Addr → Array Value → Prop) : Prop where
  mv : ∀ {h h' : Heap} {p l : Addr} {k : Nat}, I h p l k → (∀ o, h.get? p = some o → h'.get? p = some o) → I h' p l k
  mvS : ∀ {h h' : Heap} {l : Addr} {xs : Array Value}, S h l xs → (∀ o, h.get? l = some o → h'.get? l = some o) → S h' l xs
  obj : ∀ {h : Heap} {p l : Addr} {k : Nat}, I h p l k → ∃ o, h.get? p = some o ∧ ∀ v, o.data ≠ .cell v
  one : ∀ {prog : Program} {w : World} {A : Around} {E : Value → Shared → Prop} {s : Shared} {p l : Addr} {k : Nat} {xs : Array Value} {x : Value} {Q : Value → Shared → Prop}, I s.heap p l k → S s.heap l xs → xs[k]? = some x →
    (∀ h', I h' p l (k + 1) → Heap.SameBut p s.heap h' → Q x { s with heap := h' }) → wpAny (model prog w) A (Builtin.SmallTypes.nextOf (.ref p)) Q E s
  off : ∀ {prog : Program} {w : World} {A : Around} {E : Value → Shared → Prop} {s : Shared} {p l : Addr} {k : Nat} {xs : Array Value} {Q : Value → Shared → Prop}, A.handled = none → I s.heap p l k → S s.heap l xs → xs[k]? = none →
    (∀ h' e, Heap.ExtBut p s.heap h' → (∃ o, h'.get? e = some o ∧ o.cls = .type "StopIteration") → E (.ref e) { s with heap := h' }) → wpAny (model prog w) A (Builtin.SmallTypes.nextOf (.ref p)) Q E s
theorem stp_list : Stp Heap.IsListIter Heap.IsList where
  mv := fun x e => x.at e
  mvS := fun ⟨o, h1, h2⟩ e => ⟨o, e o h1, h2⟩
  obj := fun ⟨o, h1, _, h3⟩ => ⟨o, h1, fun v q => by rw [h3] at q; cases q⟩
  one := fun a b c d => wpAny_nextOf_list_item a b c d
  off := fun a b c d e => wpAny_nextOf_list_end a b c d e
theorem stp_tup : Stp Heap.IsTupleIter Heap.IsTuple where
  mv := fun x e => x.at e
  mvS := fun ⟨o, h1, h2⟩ e => ⟨o, e o h1, h2⟩
  obj := fun ⟨o, h1, _, h3⟩ => ⟨o, h1, fun v q => by rw [h3] at q; cases q⟩
  one := fun a b c d => RZ.nextOf_tuple_item a b c d
  off := fun a b c d e => RZ.nextOf_tuple_end a b c d e
section
variable {prog : Program} {w : World} {A : Around} {E : Value → Shared → Prop} {s : Shared} {I J : Heap → Addr → Addr → Nat → Prop} {S T : Heap → Addr → Array Value → Prop} {zz ti tu j1 j2 m1 m2 : Addr} {k1 k2 : Nat} {xs ys : Array Value} {a b : Value}
/-- what a turn of zip keeps -/
abbrev KpZ (zz tu j1 j2 : Addr) (h h' : Heap) : Prop := ∀ c o, c ≠ zz → c ≠ tu → c ≠ j1 → c ≠ j2 → h.get? c = some o → h'.get? c = some o
theorem zipS_item {x y : Value} {Q : Value → Shared → Prop} (U : Stp I S) (V : Stp J T) (D : ZipApart zz ti tu j1 j2 m1 m2) (gz : IsZip s.heap zz ti tu .none) (gi : IsPair s.heap ti (.ref j1) (.ref j2)) (gu : IsPair s.heap tu a b)
    (h1 : I s.heap j1 m1 k1) (h2 : J s.heap j2 m2 k2) (q1 : S s.heap m1 xs) (q2 : T s.heap m2 ys) (ex : xs[k1]? = some x) (ey : ys[k2]? = some y)
    (fin : ∀ h', IsZip h' zz ti tu (rawInt s.heap.objs.size) → IsPair h' tu x y → I h' j1 m1 (k1 + 1) → J h' j2 m2 (k2 + 1) → IsPair h' s.heap.objs.size x y → h'.objs.size = s.heap.objs.size + 1 → KpZ zz tu j1 j2 s.heap h' → Q (.ref s.heap.objs.size) { s with heap := h' }) :
    wpAny (model prog w) A (Builtin.«zip.__next__» ⟨[.ref zz], []⟩) (fun r s' => ∃ v, r = .done (.ret v) ∧ Q v s') E s := by
  show wpAny _ _ (field (.ref zz) 2 >>= _) _ _ _
  refine wpAny_bind (wpAny_field gz rfl (x := .bool false) rfl ?_)
  show wpAny _ _ (field (.ref zz) 3 >>= _) _ _ _
  refine wpAny_bind (wpAny_field gz rfl (x := .ref ti) rfl (wpAny_bind (wpAny_seqItems gi rfl ?_)))
  show wpAny _ _ (Builtin.SmallTypes.ownedTupleIsFree (.ref zz) >>= _) _ _ _
  refine wpAny_bind ?_; unfold Builtin.SmallTypes.ownedTupleIsFree
  refine wpAny_bind (wpAny_field gz rfl (x := .none) rfl (wpAny_pure ?_)); simp only [if_true]
  refine wpAny_bind (wpAny_rule (wpAny_bind (wpAny_field gz rfl (x := .ref tu) rfl (wpAny_bind (wpAny_setField_rec gz (by simp) fun g1 z1 c1 => ?_)))))
  replace z1 : IsZip g1 zz ti tu .ellipsis := z1
  have o1 : ∀ c o, c ≠ zz → s.heap.get? c = some o → g1.get? c = some o := fun c o n e => c1.extBut c o n e
  refine wpAny_bind ?_
  simp only [List.zipIdx_cons, List.zipIdx_nil, List.forIn_cons, List.forIn_nil]
  -- the first one
  refine wpAny_bind (wpAny_bind (wpAny_onRaise ?_))
  show wpAny _ _ (Builtin.SmallTypes.nextOf (.ref j1) >>= _) _ _ _
  refine wpAny_bind (U.one (U.mv h1 fun o => o1 _ o D.i1z) (U.mvS q1 fun o => o1 _ o D.l1z) ex fun g2 i2 c2 => wpAny_pure ?_)
  have o2 : ∀ c o, c ≠ zz → c ≠ j1 → s.heap.get? c = some o → g2.get? c = some o := fun c o n n' e => c2.extBut c o n' (o1 c o n e)
  have p2 : IsPair g2 tu a b := o2 _ _ D.TOz D.TOi1 gu
  refine wpAny_bind (wpAny_seqItems p2 rfl (wpAny_bind (wpAny_updateSeq_pair p2 fun g3 p3 c3 => wpAny_bind (wpAny_letGo (wpAny_pure ?_)))))
  replace p3 : IsPair g3 tu x b := p3
  have o3 : ∀ c o, c ≠ zz → c ≠ j1 → c ≠ tu → s.heap.get? c = some o → g3.get? c = some o := fun c o n n' n'' e => c3.extBut c o n'' (o2 c o n n' e)
  -- the second one
  refine wpAny_bind (wpAny_bind (wpAny_onRaise ?_))
  show wpAny _ _ (Builtin.SmallTypes.nextOf (.ref j2) >>= _) _ _ _
  refine wpAny_bind (V.one (V.mv h2 fun o => o3 _ o D.i2z D.i12.symm D.TOi2.symm) (V.mvS q2 fun o => o3 _ o D.l2z D.l2i1 D.l2TO) ey fun g4 i4 c4 => wpAny_pure ?_)
  have p4 : IsPair g4 tu x b := c4.extBut _ _ D.TOi2 p3
  refine wpAny_bind (wpAny_seqItems p4 rfl (wpAny_bind (wpAny_updateSeq_pair p4 fun g5 p5 c5 => wpAny_bind (wpAny_letGo (wpAny_pure (wpAny_pure ?_))))))
  replace p5 : IsPair g5 tu x y := p5
  have o5 : ∀ c o, c ≠ zz → c ≠ j1 → c ≠ tu → c ≠ j2 → s.heap.get? c = some o → g5.get? c = some o := fun c o n n' n'' n3 e => c5.extBut c o n'' (c4.extBut c o n3 (o3 c o n n' n'' e))
  have z5 : IsZip g5 zz ti tu .ellipsis := c5.extBut _ _ D.TOz.symm (c4.extBut _ _ D.i2z.symm (c3.extBut _ _ D.TOz.symm (c2.extBut _ _ D.i1z.symm z1)))
  have r1 : I g5 j1 m1 (k1 + 1) := U.mv i2 fun o e => c5.extBut _ o D.TOi1.symm (c4.extBut _ o D.i12 (c3.extBut _ o D.TOi1.symm e))
  have r2 : J g5 j2 m2 (k2 + 1) := V.mv i4 fun o e => c5.extBut _ o D.TOi2.symm e
  have sz : g5.objs.size = s.heap.objs.size := by rw [c5.1, c4.1, c3.1, c2.1, c1.1]
  have zl : zz < g5.objs.size := Heap.lt_size z5
  -- the new pair
  refine wpAny_bind (wpAny_seqItems p5 rfl (wpAny_bind (wpAny_newTuple ?_)))
  show wpAny _ _ (Builtin.SmallTypes.ownedTupleHandOut (.ref zz) (.ref g5.objs.size) >>= _) _ _ _
  refine wpAny_bind ?_
  unfold Builtin.SmallTypes.ownedTupleHandOut
  have z6 : IsZip (g5.push { cls := .type "tuple", data := .seq #[x, y] }) zz ti tu .ellipsis := Heap.get?_push_of_some _ z5
  refine wpAny_bind (wpAny_setField_rec z6 (by simp) fun g7 z7 c7 => ?_)
  replace z7 : IsZip g7 zz ti tu (rawInt g5.objs.size) := z7
  refine wpAny_setField_rec z7 (by simp) fun g8 z8 c8 => ?_
  replace z8 : IsZip g8 zz ti tu (rawInt g5.objs.size) := z8
  have o8 : ∀ c o, c ≠ zz → (g5.push { cls := .type "tuple", data := .seq #[x, y] }).get? c = some o → g8.get? c = some o := fun c o n e => c8.extBut c o n (c7.extBut c o n e)
  have t8 : IsPair g8 g5.objs.size x y := o8 _ _ (Nat.ne_of_gt zl) (Heap.get?_push_size _ rfl)
  have s8 : g8.objs.size = g5.objs.size + 1 := by rw [c8.1, c7.1, Heap.size_push]
  have up : ∀ c o, c ≠ zz → g5.get? c = some o → g8.get? c = some o := fun c o n e => o8 c o n (Heap.get?_push_of_some _ e)
  rw [sz] at z8 t8 s8
  refine wpAny_pure ⟨_, rfl, ?_⟩
  show Q (.ref g5.objs.size) _
  rw [sz]
  exact fin g8 z8 (up _ _ D.TOz p5) (U.mv r1 fun o => up _ o D.i1z) (V.mv r2 fun o => up _ o D.i2z) t8 s8 fun c o n1 n2 n3 n4 e => up c o n1 (o5 c o n1 n3 n2 n4 e)
theorem zipS_off {Q : Fin → Shared → Prop} (U : Stp I S) (V : Stp J T) (hh : A.handled = none) (D : ZipApart zz ti tu j1 j2 m1 m2) (gz : IsZip s.heap zz ti tu .none) (gi : IsPair s.heap ti (.ref j1) (.ref j2)) (gu : IsPair s.heap tu a b)
    (h1 : I s.heap j1 m1 k1) (h2 : J s.heap j2 m2 k2) (q1 : S s.heap m1 xs) (q2 : T s.heap m2 ys) (ee : xs[k1]? = none ∨ ys[k2]? = none)
    (fin : ∀ h' e, KpZ zz tu j1 j2 s.heap h' → (∃ o, h'.get? e = some o ∧ o.cls = .type "StopIteration") → E (.ref e) { s with heap := h' }) :
    wpAny (model prog w) A (Builtin.«zip.__next__» ⟨[.ref zz], []⟩) Q E s := by
  show wpAny _ _ (field (.ref zz) 2 >>= _) _ _ _
  refine wpAny_bind (wpAny_field gz rfl (x := .bool false) rfl ?_)
  show wpAny _ _ (field (.ref zz) 3 >>= _) _ _ _
  refine wpAny_bind (wpAny_field gz rfl (x := .ref ti) rfl (wpAny_bind (wpAny_seqItems gi rfl ?_)))
  show wpAny _ _ (Builtin.SmallTypes.ownedTupleIsFree (.ref zz) >>= _) _ _ _
  refine wpAny_bind ?_; unfold Builtin.SmallTypes.ownedTupleIsFree
  refine wpAny_bind (wpAny_field gz rfl (x := .none) rfl (wpAny_pure ?_)); simp only [if_true]
  refine wpAny_bind (wpAny_rule (wpAny_bind (wpAny_field gz rfl (x := .ref tu) rfl (wpAny_bind (wpAny_setField_rec gz (by simp) fun g1 z1 c1 => ?_)))))
  replace z1 : IsZip g1 zz ti tu .ellipsis := z1
  have o1 : ∀ c o, c ≠ zz → s.heap.get? c = some o → g1.get? c = some o := fun c o n e => c1.extBut c o n e
  refine wpAny_bind ?_
  simp only [List.zipIdx_cons, List.zipIdx_nil, List.forIn_cons, List.forIn_nil]
  refine wpAny_bind (wpAny_bind (wpAny_onRaise ?_))
  show wpAny _ _ (Builtin.SmallTypes.nextOf (.ref j1) >>= _) _ _ _
  cases ex : xs[k1]? with
  | none =>
    refine wpAny_bind (U.off hh (U.mv h1 fun o => o1 _ o D.i1z) (U.mvS q1 fun o => o1 _ o D.l1z) ex fun g2 e c2 he => ?_)
    obtain ⟨oe, ho, hc⟩ := he
    have z2 : IsZip g2 zz ti tu .ellipsis := c2 _ _ D.i1z.symm z1
    have ne : e ≠ zz := fun q => by
      rw [q, z2] at ho
      cases ho
      simp at hc
    exact wpAny_setField_rec z2 (by simp) fun g3 _ c3 => fin g3 e (fun c o n1 _ n3 _ q => c3.extBut _ _ n1 (c2 _ _ n3 (o1 c o n1 q))) ⟨oe, c3.extBut _ _ ne ho, hc⟩
  | some x =>
    have ey : ys[k2]? = none := ee.resolve_left (by rw [ex]; simp)
    refine wpAny_bind (U.one (U.mv h1 fun o => o1 _ o D.i1z) (U.mvS q1 fun o => o1 _ o D.l1z) ex fun g2 i2 c2 => wpAny_pure ?_)
    have o2 : ∀ c o, c ≠ zz → c ≠ j1 → s.heap.get? c = some o → g2.get? c = some o := fun c o n n' e => c2.extBut c o n' (o1 c o n e)
    have p2 : IsPair g2 tu a b := o2 _ _ D.TOz D.TOi1 gu
    refine wpAny_bind (wpAny_seqItems p2 rfl (wpAny_bind (wpAny_updateSeq_pair p2 fun g3 p3 c3 => wpAny_bind (wpAny_letGo (wpAny_pure ?_)))))
    have o3 : ∀ c o, c ≠ zz → c ≠ j1 → c ≠ tu → s.heap.get? c = some o → g3.get? c = some o := fun c o n n' n'' e => c3.extBut c o n'' (o2 c o n n' e)
    refine wpAny_bind (wpAny_bind (wpAny_onRaise ?_))
    show wpAny _ _ (Builtin.SmallTypes.nextOf (.ref j2) >>= _) _ _ _
    refine wpAny_bind (V.off hh (V.mv h2 fun o => o3 _ o D.i2z D.i12.symm D.TOi2.symm) (V.mvS q2 fun o => o3 _ o D.l2z D.l2i1 D.l2TO) ey fun g4 e c4 he => ?_)
    obtain ⟨oe, ho, hc⟩ := he
    have z4 : IsZip g4 zz ti tu .ellipsis := c4 _ _ D.i2z.symm (c3.extBut _ _ D.TOz.symm (c2.extBut _ _ D.i1z.symm z1))
    have ne : e ≠ zz := fun q => by
      rw [q, z4] at ho
      cases ho
      simp at hc
    exact wpAny_setField_rec z4 (by simp) fun g5 _ c5 => fin g5 e (fun c o n1 n2 n3 n4 q => c5.extBut _ _ n1 (c4 _ _ n4 (o3 c o n1 n3 n2 q))) ⟨oe, c5.extBut _ _ ne ho, hc⟩
theorem zipS_next {x y : Value} {Q : Option Value → Shared → Prop} (U : Stp I S) (V : Stp J T) (D : ZipApart zz ti tu j1 j2 m1 m2) (gz : IsZip s.heap zz ti tu .none) (gi : IsPair s.heap ti (.ref j1) (.ref j2)) (gu : IsPair s.heap tu a b)
    (h1 : I s.heap j1 m1 k1) (h2 : J s.heap j2 m2 k2) (q1 : S s.heap m1 xs) (q2 : T s.heap m2 ys) (ex : xs[k1]? = some x) (ey : ys[k2]? = some y)
    (fin : ∀ h', IsZip h' zz ti tu (rawInt s.heap.objs.size) → IsPair h' tu x y → I h' j1 m1 (k1 + 1) → J h' j2 m2 (k2 + 1) → IsPair h' s.heap.objs.size x y → h'.objs.size = s.heap.objs.size + 1 → KpZ zz tu j1 j2 s.heap h' → Q (some (.ref s.heap.objs.size)) { s with heap := h' }) :
    wpAny (model prog w) A (pyNext (.ref zz)) Q E s := by
  have ty : s.TypeIs (.ref zz) "zip" := ⟨_, gz, rfl⟩
  unfold pyNext
  refine wpAny_bind (wpAny_attempt (wpAny_callSpecial?_slot (name := Str.ofString "__next__") ty F.slot_zip_next (wpAny_call_entry F.slot_zip_next ty F.entry_zip_next ?_ (F.args_zip_next_1 _))))
  exact zipS_item U V D gz gi gu h1 h2 q1 q2 ex ey fun h' a1 a2 a3 a4 a5 a6 a7 => wpAny_pure (fin h' a1 a2 a3 a4 a5 a6 a7)
theorem zipS_stop {Q : Option Value → Shared → Prop} (U : Stp I S) (V : Stp J T) (hh : A.handled = none) (D : ZipApart zz ti tu j1 j2 m1 m2) (gz : IsZip s.heap zz ti tu .none) (gi : IsPair s.heap ti (.ref j1) (.ref j2)) (gu : IsPair s.heap tu a b)
    (h1 : I s.heap j1 m1 k1) (h2 : J s.heap j2 m2 k2) (q1 : S s.heap m1 xs) (q2 : T s.heap m2 ys) (ee : xs[k1]? = none ∨ ys[k2]? = none) (fin : ∀ h', KpZ zz tu j1 j2 s.heap h' → Q none { s with heap := h' }) :
    wpAny (model prog w) A (pyNext (.ref zz)) Q E s := by
  have ty : s.TypeIs (.ref zz) "zip" := ⟨_, gz, rfl⟩
  unfold pyNext
  refine wpAny_bind (wpAny_attempt (wpAny_callSpecial?_slot (name := Str.ofString "__next__") ty F.slot_zip_next (wpAny_call_entry F.slot_zip_next ty F.entry_zip_next (zipS_off U V hh D gz gi gu h1 h2 q1 q2 ee fun h' e kp he => ?_) (F.args_zip_next_1 _))))
  obtain ⟨o, ho, hc⟩ := he
  exact wpAny_bind (wpAny_isInstance (T := "StopIteration") (b := true) ⟨o, ho, hc⟩ isSubtype_stop (wpAny_pure (fin _ kp)))
end
/-! ### zip(list, tuple) -/
/-- the list at p, the tuple at q, the items in new pairs -/
def ItLT (K : PySem.W.Frag) (p q : Addr) : It :=
  ⟨fun i H => ∃ (xs ys : List V) (x y : V), SqL K H p xs ∧ SqT K H q ys ∧ xs[i]? = some x ∧ ys[i]? = some y,
    fun i H v H' => ∃ t x y, v = .ref t ∧ H t = none ∧ H' = upd H t (.tup [x, y]) ∧ (∀ xs, SqL K H p xs → xs[i]? = some x) ∧ ∀ ys, SqT K H q ys → ys[i]? = some y,
    fun i H => ∃ xs ys : List V, SqL K H p xs ∧ SqT K H q ys ∧ (xs.length ≤ i ∨ ys.length ≤ i)⟩
theorem five {c zz ti tu j1 j2 : Addr} (h : c ∈ [zz, ti, tu, j1, j2]) : c = zz ∨ c = ti ∨ c = tu ∨ c = j1 ∨ c = j2 := by simpa using h
theorem turn_LT {Pg : Program} {w : World} {K : PySem.W.Frag} {elts : List Expr} {kk : Nat} {tpos : Pos} {p q zz ti tu j1 j2 : Addr} (D : ZipApart zz ti tu j1 j2 p q) :
    Turn Pg w K (.Tuple elts kk tpos) (ItLT K p q) [zz, ti, tu, j1, j2] zz (fun i h => IsZip h zz ti tu .none ∧ IsPair h ti (.ref j1) (.ref j2) ∧ (∃ x y, IsPair h tu x y) ∧ h.IsListIter j1 p i ∧ h.IsTupleIter j2 q i) where
  mem := List.mem_cons_self
  obj := fun i h st c hc => by
    obtain ⟨gz, gi, ⟨x, y, gu⟩, i1, i2⟩ := st
    rcases five hc with rfl | rfl | rfl | rfl | rfl
    · exact ⟨_, gz, fun v z => nomatch z⟩
    · exact ⟨_, gi, fun v z => nomatch z⟩
    · exact ⟨_, gu, fun v z => nomatch z⟩
    · exact stp_list.obj i1
    · exact stp_tup.obj i2
  keep := fun i h h' st k => by
    obtain ⟨gz, gi, ⟨x, y, gu⟩, i1, i2⟩ := st
    exact ⟨k zz (by simp) _ gz, k ti (by simp) _ gi, ⟨x, y, k tu (by simp) _ gu⟩, i1.at fun o e => k j1 (by simp) o e, i2.at fun o e => k j2 (by simp) o e⟩
  item := by
    intro X hP hw hK hc i pins s σ H E I hf st hg
    subst hP hw hK
    obtain ⟨gz, gi, ⟨x0, y0, gu⟩, i1, i2⟩ := st
    obtain ⟨xs, ys, x, y, hqx, hqy, hx, hy⟩ := hg
    obtain ⟨us, rv, pl, _⟩ := I.list hqx
    obtain ⟨vs, rv2, pt, _⟩ := I.tuple hqy
    obtain ⟨u, hu, ru⟩ := rv.get hx
    obtain ⟨u2, hu2, ru2⟩ := rv2.get hy
    have zl : zz < s.heap.objs.size := Heap.lt_size gz
    refine zipS_next stp_list stp_tup D gz gi gu i1 i2 pl.isList (show s.heap.IsTuple q vs.toArray from pt) (x := u) (y := u2) (by simpa using hu) (by simpa using hu2) fun h' z' u' i1' i2' t' sz kp => ?_
    refine ⟨_, rfl, wpAny_letOwnedTupleGo_zip (s := { s with heap := h' }) z' fun h2 z2 sb => ?_⟩
    have t2 : h2.get? s.heap.objs.size = some { cls := .type "tuple", data := .seq #[u, u2] } := (sb.2 _ (Nat.ne_of_gt zl)).trans t'
    have ob : ObjOk X.prog X.w (upd H s.heap.objs.size (.tup [x, y])) h2 s.heap.objs.size (.tup [x, y]) := ⟨by show 2 ≤ sizeLine; decide, [u, u2], .cons ru (.cons ru2 .nil), ⟨_, t2, rfl, _, rfl⟩⟩
    have out : ∀ c, c ∉ [zz, ti, tu, j1, j2] → c ≠ zz ∧ c ≠ tu ∧ c ≠ j1 ∧ c ≠ j2 := fun c hb => ⟨fun e => hb (by simp [e]), fun e => hb (by simp [e]), fun e => hb (by simp [e]), fun e => hb (by simp [e])⟩
    have I1 : Inv X pins σ (upd H s.heap.objs.size (.tup [x, y])) { s with heap := h2 } :=
      I.turnedNew (t' := s.toks) (ch := [zz, ti, tu, j1, j2]) (fun c o hb e => (sb.2 c (out c hb).1).trans (kp c o (out c hb).1 (out c hb).2.1 (out c hb).2.2.1 (out c hb).2.2.2 e)) hf (Nat.le_refl _) ob
    refine ⟨.ref s.heap.objs.size, _, I1, rfl, ⟨_, x, y, rfl, I.hok.fresh (Nat.le_refl _), rfl, fun l hl => by rw [I.list_inj hl hqx]; exact hx, fun l hl => by rw [I.tuple_inj hl hqy]; exact hy⟩, ⟨z2, ?_, ⟨u, u2, ?_⟩, ?_, ?_⟩, fun c hcm => ?_⟩
    · exact (sb.2 _ D.TIz).trans (kp _ _ D.TIz D.TITO D.TIi1 D.TIi2 gi)
    · exact (sb.2 _ D.TOz).trans u'
    · exact i1'.at fun o e => (sb.2 _ D.i1z).trans e
    · exact i2'.at fun o e => (sb.2 _ D.i2z).trans e
    · have lt : c < s.heap.objs.size := by
        rcases five hcm with rfl | rfl | rfl | rfl | rfl
        · exact zl
        · exact Heap.lt_size gi
        · exact Heap.lt_size gu
        · exact Heap.lt_size i1.choose_spec.1
        · exact Heap.lt_size i2.choose_spec.1
      rw [upd_ne (Nat.ne_of_lt lt)]
      exact (hf c hcm).1
  done := by
    intro X hP hw hK hc i pins s σ H E I hf st hg
    subst hP hw hK
    obtain ⟨gz, gi, ⟨x0, y0, gu⟩, i1, i2⟩ := st
    obtain ⟨xs, ys, hqx, hqy, he⟩ := hg
    obtain ⟨us, rv, pl, _⟩ := I.list hqx
    obtain ⟨vs, rv2, pt, _⟩ := I.tuple hqy
    have l1 := rv.length
    have l2 := rv2.length
    have ee : us.toArray[i]? = none ∨ vs.toArray[i]? = none := by
      rcases he with e | e
      · exact .inl (by simp; omega)
      · exact .inr (by simp; omega)
    have out : ∀ c, c ∉ [zz, ti, tu, j1, j2] → c ≠ zz ∧ c ≠ tu ∧ c ≠ j1 ∧ c ≠ j2 := fun c hb => ⟨fun e => hb (by simp [e]), fun e => hb (by simp [e]), fun e => hb (by simp [e]), fun e => hb (by simp [e])⟩
    exact zipS_stop stp_list stp_tup (I.ok.hd hc) D gz gi gu i1 i2 pl.isList (show s.heap.IsTuple q vs.toArray from pt) ee fun h' kp =>
      ⟨rfl, I.turnedL (t' := s.toks) (ch := [zz, ti, tu, j1, j2]) (fun c o hb e => kp c o (out c hb).1 (out c hb).2.1 (out c hb).2.2.1 (out c hb).2.2.2 e) hf⟩
  self := fun A i s Q E st h => wpAny_pyIter_zip st.1 h
end FL
/-! zip(list, tuple): the call, the loop's reading. -/
namespace FL
open PySem L2 PyProof.Rows
abbrev zH1 (h : Heap) (l1 : Addr) : Heap := h.push { cls := .type "list_iterator", data := .fields #[.ref l1, .int 0 0] }
abbrev zH2 (h : Heap) (l1 l2 : Addr) : Heap := (zH1 h l1).push { cls := .type "tuple_iterator", data := .fields #[.ref l2, .int 0 0] }
abbrev zH3 (h : Heap) (l1 l2 : Addr) : Heap := (zH2 h l1 l2).push { cls := .type "tuple", data := .seq #[.ref h.objs.size, .ref (zH1 h l1).objs.size] }
abbrev zH4 (h : Heap) (l1 l2 : Addr) : Heap := (zH3 h l1 l2).push { cls := .type "tuple", data := .seq #[.none, .none] }
abbrev zH5 (h : Heap) (l1 l2 : Addr) : Heap := (zH4 h l1 l2).push { cls := .type "zip", data := .fields #[.none, .bool false, .bool false, .ref (zH2 h l1 l2).objs.size, .ref (zH3 h l1 l2).objs.size] }
theorem meets_zipLT (l1 l2 : Addr) (xs ys : Array Value) :
    Meets (Builtin.«zip.__new__» ⟨[.type "zip", .ref l1, .ref l2], []⟩) (fun _ R s => s.heap.IsList l1 xs ∧ s.heap.IsTuple l2 ys ∧
      R (.ok (.ret (.ref (zH4 s.heap l1 l2).objs.size))) { s with heap := zH5 s.heap l1 l2 }) :=
  .of_wp fun prog w A R s h => by
    obtain ⟨hp, g, d, tk, os⟩ := s; obtain ⟨hl1, hl2, h⟩ := h
    have hsub := sub_zip
    have hL1 : Heap.IsList (Shared.heap ⟨hp, g, d, tk, os⟩) l1 xs := hl1
    have hL2 : Heap.IsTuple (Shared.heap ⟨hp.push { cls := .type "list_iterator", data := .fields #[.ref l1, .int 0 0] }, g, d, tk, os⟩) l2 ys := Heap.IsTuple.push hl2 _
    wp_walk using wpAny_pyIter_list hL1, wpAny_pyIter_tuple hL2
    exact ⟨_, rfl, h⟩
theorem call_zipLT {prog : Program} {w : World} {A : Around} {E : Value → Shared → Prop} {s : Shared} {l1 l2 : Addr} {xs ys : Array Value} {Q : Value → Shared → Prop} (hl1 : s.heap.IsList l1 xs) (hl2 : s.heap.IsTuple l2 ys)
    (h : ∀ h', IsZip h' (s.heap.objs.size + 4) (s.heap.objs.size + 2) (s.heap.objs.size + 3) .none → IsPair h' (s.heap.objs.size + 2) (.ref s.heap.objs.size) (.ref (s.heap.objs.size + 1)) →
      IsPair h' (s.heap.objs.size + 3) .none .none → h'.IsListIter s.heap.objs.size l1 0 → h'.IsTupleIter (s.heap.objs.size + 1) l2 0 → h'.objs.size = s.heap.objs.size + 5 →
      (∀ c o, s.heap.get? c = some o → h'.get? c = some o) → Q (.ref (s.heap.objs.size + 4)) { s with heap := h' }) :
    wpAny (model prog w) A (call (.type "zip") [.ref l1, .ref l2]) Q E s := by
  refine callType_new F.called_zip (by decide) (F.typeCall_zip_2 _ _) (F.newCall_zip_2 _ _) (fun obj => F.args_object_init_3 obj _ _) F.entry_zip_new
    (meets_zipLT l1 l2 xs ys) ⟨hl1, hl2, ?_⟩
  have z1 : (zH1 s.heap l1).objs.size = s.heap.objs.size + 1 := Heap.size_push ..
  have z2 : (zH2 s.heap l1 l2).objs.size = s.heap.objs.size + 2 := by rw [Heap.size_push, z1]
  have z3 : (zH3 s.heap l1 l2).objs.size = s.heap.objs.size + 3 := by rw [Heap.size_push, z2]
  have z4 : (zH4 s.heap l1 l2).objs.size = s.heap.objs.size + 4 := by rw [Heap.size_push, z3]
  have z5 : (zH5 s.heap l1 l2).objs.size = s.heap.objs.size + 5 := by rw [Heap.size_push, z4]
  have g5 : (zH5 s.heap l1 l2).get? (zH4 s.heap l1 l2).objs.size = some _ := Heap.get?_push_size _ rfl
  have g4 : (zH5 s.heap l1 l2).get? (zH3 s.heap l1 l2).objs.size = some _ := Heap.get?_push_of_some _ (Heap.get?_push_size _ rfl)
  have g3 : (zH5 s.heap l1 l2).get? (zH2 s.heap l1 l2).objs.size = some _ := Heap.get?_push_of_some _ (Heap.get?_push_of_some _ (Heap.get?_push_size _ rfl))
  have g2 : (zH5 s.heap l1 l2).get? (zH1 s.heap l1).objs.size = some _ := Heap.get?_push_of_some _ (Heap.get?_push_of_some _ (Heap.get?_push_of_some _ (Heap.get?_push_size _ rfl)))
  have g1 : (zH5 s.heap l1 l2).get? s.heap.objs.size = some _ := Heap.get?_push_of_some _ (Heap.get?_push_of_some _ (Heap.get?_push_of_some _ (Heap.get?_push_of_some _ (Heap.get?_push_size _ rfl))))
  show _ ∧ _
  rw [z2, z3, z4] at g5
  rw [z1, z2] at g3
  rw [z3] at g4
  rw [z1] at g2
  rw [z4]
  exact ⟨⟨_, g5, rfl⟩, h _ g5 g3 g4 ⟨_, g1, rfl, rfl⟩ ⟨_, g2, rfl, rfl⟩ z5 fun c o x =>
    Heap.get?_push_of_some _ (Heap.get?_push_of_some _ (Heap.get?_push_of_some _ (Heap.get?_push_of_some _ (Heap.get?_push_of_some _ x))))⟩
def iZipLT (K : PySem.W.Frag) (ta : TA) : TI := fun σ H R => ta σ H fun vs H1 => ∃ a b xs ys, vs = [.ref a, .ref b] ∧ SqL K H1 a xs ∧ SqT K H1 b ys ∧ R (ItLT K a b) H1
theorem pi_zipLT {X : Cx} {e e2 : Expr} {ta : TA} {p pos tpos : Pos} {elts : List Expr} {kk : Nat} (hg : Gl X "zip") (hm : X.mg "zip" = none) (ha : PA X [e, e2] ta)
    (hs : starEach [e, e2] X.env = (false, eval e X.env) :: starEach [e2] X.env := by rfl) (hpl : (backTo pos (starEach [e2] X.env)).any (·.1) = false := by rfl) :
    PI X (.Tuple elts kk tpos) (.Call (.Name "zip" p) [e, e2] [] pos) (iZipLT X.K ta) := by
  refine ⟨fun pins s σ H R I h => ?_⟩
  refine Call_ (ld_blt I hg hm PyProof.Rows.boot_zip (PyProof.Rows.callWith_type1 (thn (ha.run pos pins s σ H _ I h) fun us s1 ⟨vs, H1, I1, r1, q1⟩ => ?_) hs hpl))
  obtain ⟨a, b, xs, ys, ex, hqx, hqy, q⟩ := q1
  subst ex
  cases r1 with
  | cons r rr =>
    cases rr with
    | cons r' rr =>
      cases rr
      cases r
      cases r'
      have fresh5 : ∀ c, c ∈ [s1.heap.objs.size + 4, s1.heap.objs.size + 2, s1.heap.objs.size + 3, s1.heap.objs.size, s1.heap.objs.size + 1] → FpOk X pins H1 c := fun c hcm => by
        have e' : c = s1.heap.objs.size + 4 ∨ c = s1.heap.objs.size + 2 ∨ c = s1.heap.objs.size + 3 ∨ c = s1.heap.objs.size ∨ c = s1.heap.objs.size + 1 := by simpa using hcm
        have hle : s1.heap.objs.size ≤ c := by
          rcases e' with z | z | z | z | z
          · rw [z]; exact Nat.le_add_right _ _
          · rw [z]; exact Nat.le_add_right _ _
          · rw [z]; exact Nat.le_add_right _ _
          · rw [z]; exact Nat.le_refl _
          · rw [z]; exact Nat.le_add_right _ _
        exact I1.fpOk hle (I1.hok.fresh hle)
      obtain ⟨its, rv, p1, _⟩ := I1.list hqx
      obtain ⟨its2, rv2, p2, _⟩ := I1.tuple hqy
      obtain ⟨o2, ho2, _⟩ := id p2
      refine call_zipLT p1.isList (show s1.heap.IsTuple b its2.toArray from p2) fun h' hz hTI hTO h1 h2 hsz hk => wpAny_pyIter_zip hz ?_
      have I2 : Inv X pins σ H1 { s1 with heap := h' } := I1.kept (t' := s1.toks) hk
      exact ⟨s1.heap.objs.size + 4, [s1.heap.objs.size + 4, s1.heap.objs.size + 2, s1.heap.objs.size + 3, s1.heap.objs.size, s1.heap.objs.size + 1], _, _, H1, rfl, I2, turn_LT (PySem.W.ktu_apart s1.heap.objs.size a b p1.lt (Heap.lt_size ho2)), ⟨hz, hTI, ⟨_, _, hTO⟩, h1, h2⟩, fresh5, q⟩
theorem walk_zipLT {K : PySem.W.Frag} {p q : Addr} {xs ys : List V} {n : Nat} (hn : n = min xs.length ys.length) : Walk (ItLT K p q) n (fun H => SqL K H p xs ∧ SqT K H q ys) (YPair (fun i => xs[i]?) (fun i => ys[i]?)) := by
  subst hn
  refine ⟨fun i _ hi g => ?_, fun _ g => ⟨xs, ys, g.1, g.2, by omega⟩, fun i H v H' _ g y => ?_⟩
  · have h1 : i < xs.length := by omega
    have h2 : i < ys.length := by omega
    exact ⟨xs, ys, xs[i], ys[i], g.1, g.2, by simp [h1], by simp [h2]⟩
  · obtain ⟨T, x, z, h1, h2, h3, h4, h5⟩ := y
    exact ⟨T, x, z, h1, h2, h3, h4 xs g.1, h5 ys g.2⟩
def mZq (fa fb : Mx Vl) : Mx (List PyData) := bnd fa fun x => bnd fb fun y => opt (match x, y with
  | .dat (.list ds), .dat (.tuple es) => some (zpD ds es)
  | _, _ => none)
theorem fi_zipLT {P : Pm} {X : Cx} {a b : Expr} {fa fb : Mx Vl} {p pos tpos : Pos} {elts : List Expr} {kk : Nat} (ha : FE X P a fa) (hb : FE X P b fb) (hm : X.mg "zip" = none) (hK : X.K = P.K := by rfl) (hg : Gl X "zip" := by rfl)
    (hs : starEach [a, b] X.env = (false, eval a X.env) :: starEach [b] X.env := by rfl) (hs2 : starEach [b] X.env = (false, eval b X.env) :: starEach [] X.env := by rfl) (hpl : (backTo pos (starEach [b] X.env)).any (·.1) = false := by rfl) :
    FI X P (.Tuple elts kk tpos) (.Call (.Name "zip" p) [a, b] [] pos) (mZq fa fb) := by
  refine PI.imp (pi_zipLT hg hm (pa_cons ha (pa_cons hb pa_nil hs2) hs) hs hpl) ?_
  rw [hK]
  rintro σ H R ⟨M, r0, ss, rw, xs, rw', I, e, q⟩
  obtain ⟨y, rw1, e1, e⟩ := bnd_some e
  obtain ⟨z, rw2, e3, e⟩ := bnd_some e
  obtain ⟨e2, rfl⟩ := opt_some e
  refine ⟨M, r0, ss, rw, _, _, I, e1, fun v H1 k1 I1 hv => ⟨M, r0, ss, _, _, _, I1, e3, fun u H2 k2 I2 hu => ?_⟩⟩
  have hv2 := VR.mono k2.msk hv
  split at e2
  next ds es =>
    cases e2
    obtain ⟨p1, vs, rfl, h1, h2⟩ := vr_lst hv2
    obtain ⟨p2, us, rfl, g1, g2⟩ := vr_tup hu
    refine ⟨p1, p2, vs, us, rfl, SqL.of (mk_le _ H2 _ _ h1), sqT_mono (mk_le _ H2) g1, q _ H2 (k1.trans k2) I2 ?_⟩
    exact wlk_pair (walk_zipLT rfl) rfl (fun S1 H3 s => ⟨SqL.of (mk_le _ H3 _ _ (s _ _ h1)), sqT_mono (mk_le _ H3) (sqT_mono s g1)⟩) h2 g2
  next => cases e2
end FL
/-! Comprehensions with two fors. -/
namespace FL
open PySem L2
section
variable {J : It} {n : Nat} {G : Hp → Prop} {Y : Nat → Hp → V → Hp → Prop}
theorem lc_it0 (w : Walk J n G Y) {g : TG} {tt : TT} {te : TE} {vs : List Nat} {σ : St} {H1 : Hp} {D : Addr} {Qd : Hp → Prop} (Pv : Nat → Hp → Prop) (h0 : Pv 0 H1) (hG : ∀ i H, i ≤ n → Pv i H → G H)
    (hs : ∀ i x H H', i < n → Pv i H → Y i H x H' → g x (wipe σ vs) H' fun σ2 H2 => wipe σ2 vs = wipe σ vs ∧ tt σ2 H2 fun b H3 =>
      if b = true then te σ2 H3 fun y H4 => ∃ acc, H4 D = some (.lst acc) ∧ acc.length < sizeLine ∧ Pv (i + 1) (upd H4 D (.lst (acc ++ [y]))) else Pv (i + 1) H3) (hd : ∀ H, Pv n H → Qd H) :
    ∃ W : Nat → Nat → Hp → Prop, (∃ m, W 0 m H1) ∧ ∀ i m H, W i m H →
      (J.stop i H ∧ Qd H) ∨ (J.go i H ∧ ∃ Nx : Hp → Prop, (∀ H', Nx H' → ∃ m', m' < m ∧ W (i + 1) m' H') ∧ ∀ x H', J.yld i H x H' → g x (wipe σ vs) H' fun σ2 H2 => wipe σ2 vs = wipe σ vs ∧ tt σ2 H2 fun b H3 =>
        if b = true then te σ2 H3 fun y H4 => ∃ acc, H4 D = some (.lst acc) ∧ acc.length < sizeLine ∧ Nx (upd H4 D (.lst (acc ++ [y]))) else Nx H3) := by
  refine ⟨fun i m H => m = n - i ∧ i ≤ n ∧ Pv i H, ⟨n, by simp, Nat.zero_le _, h0⟩, ?_⟩
  rintro i m H ⟨rfl, hi, p⟩
  have q := hG i H hi p
  by_cases hlt : i < n
  · refine .inr ⟨w.goes i H hlt q, Pv (i + 1), fun H' p' => ⟨n - (i + 1), by omega, rfl, hlt, p'⟩, fun x H' y => hs i x H H' hlt p (w.yields i H x H' hlt q y)⟩
  · have e : i = n := by omega
    subst e
    exact .inl ⟨w.stops H q, hd H p⟩
end
section
variable {P : Pm} {g : PyData → List Sl → Option (List Sl)} {tt : Mx Bool} {te : Mx Vl} {t : TG} {vs : List Nat}
/-- the second for's own turns, D growing -/
theorem lc_in (hg : GOk P t g vs) {M : Addr → Prop} {r : Option Addr} {σ : St} {ss : List Sl} {H1 : Hp} {D : Addr} {us0 : List V} {acc0 xs ds : List PyData} {rw1 rw' : Ro} {J : It} (I1 : ER P M r σ H1 ss rw1) (hM : M D) (hn : noOwn ss vs = true)
    (wk : Wlk P (Msk M r σ ss) H1 J xs) (hus0 : H1 D = some (.lst us0)) (dr0 : DRAll P.K (hdn (Msk M r σ ss) H1) us0 acc0) (hl : acc0.length + xs.length ≤ 100000) (e : lcGo g tt te (wipeS ss vs) xs rw1 = some (ds, rw')) {Nx : Hp → Prop}
    (q : ∀ us H2, (∀ b o, H1 b = some o → r ≠ some b → b ≠ D → H2 b = some o) → ER P M r σ H2 ss rw' → H2 D = some (.lst us) → DRAll P.K (hdn (Msk M r σ ss) H2) us (acc0 ++ ds) → Nx H2) :
    ∃ W : Nat → Nat → Hp → Prop, (∃ m, W 0 m H1) ∧ ∀ i m H, W i m H →
      (J.stop i H ∧ Nx H) ∨ (J.go i H ∧ ∃ Nx1 : Hp → Prop, (∀ H', Nx1 H' → ∃ m', m' < m ∧ W (i + 1) m' H') ∧ ∀ x H', J.yld i H x H' → t x (wipe σ vs) H' fun σ2 H2 => wipe σ2 vs = wipe σ vs ∧ tT P tt σ2 H2 fun b H3 =>
        if b = true then tE P te σ2 H3 fun y H4 => ∃ acc, H4 D = some (.lst acc) ∧ acc.length < sizeLine ∧ Nx1 (upd H4 D (.lst (acc ++ [y]))) else Nx1 H3) := by
  have rD : r ≠ some D := fun z => (I1.rk D z).1 hM
  have IM : ER P M r (wipe σ vs) H1 (wipeS ss vs) rw1 := I1.wipe vs
  have sub0 : ∀ a, Msk M r σ ss a → Msk M r (wipe σ vs) (wipeS ss vs) a := fun a z => by
    rcases z with z | z | z
    · exact .inl z
    · exact .inr (.inl z)
    · exact .inr (.inr (own_unwipe hn z))
  have sub1 : ∀ a, Msk M r (wipe σ vs) (wipeS ss vs) a → Msk M r σ ss a := fun a z => by
    rcases z with z | z | z
    · exact .inl z
    · exact .inr (.inl z)
    · exact .inr (.inr (own_wipe z))
  let Kp : Hp → Prop := fun H2 => ∀ b o, H1 b = some o → r ≠ some b → b ≠ D → H2 b = some o
  let Pv : Nat → Hp → Prop := fun i H2 => ∃ (acc : List PyData) (us : List V) (ys : List PyData) (rw2 : Ro), H2 D = some (.lst us) ∧ acc.length ≤ i ∧ ER P M r (wipe σ vs) H2 (wipeS ss vs) rw2 ∧
    DRAll P.K (hdn (Msk M r (wipe σ vs) (wipeS ss vs)) H2) us (acc0 ++ acc) ∧ lcGo g tt te (wipeS ss vs) (xs.drop i) rw2 = some (ys, rw') ∧ ds = acc ++ ys ∧ Kp H2
  have ms : ∀ {H2 : Hp}, Kp H2 → Same (hdn (Msk M r σ ss) H1) (hdn (Msk M r σ ss) H2) := fun {H2} k => mk_same fun b o n h => ⟨n, k b o h (fun z => n (.inr (.inl z))) fun z => n (.inl (by rw [z]; exact hM))⟩
  have W : Walk J xs.length (fun H2 => Kp H2 ∧ ∀ a, Msk M r σ ss a → H2 a ≠ none) (fun i H2 x H3 => Same H2 H3 ∧ ∃ d, xs[i]? = some d ∧ ∀ S1, Same (hdn (Msk M r σ ss) H1) (hdn S1 H2) → (∀ a, S1 a → H2 a ≠ none) → DR P.K (hdn S1 H3) x d) := by
    refine ⟨fun i H2 hi h => ((wk _ H2 (ms h.1) h.2).1 i hi).1, fun H2 h => (wk _ H2 (ms h.1) h.2).2, fun i H2 x H3 hi h y => ?_⟩
    obtain ⟨s, d, h1, h2⟩ := ((wk _ H2 (ms h.1) h.2).1 i hi).2 x H3 y
    refine ⟨s, d, h1, fun S1 s1 a1 => ?_⟩
    obtain ⟨_, d', h1', h2'⟩ := ((wk S1 H2 s1 a1).1 i hi).2 x H3 y
    rw [h1] at h1'
    cases h1'
    exact h2'
  refine lc_it0 W Pv ⟨[], us0, ds, rw1, hus0, Nat.le_refl _, IM, by rw [List.append_nil]; exact drAll_mono (mk_sub sub1) _ _ dr0, e, rfl, fun _ _ h _ _ => h⟩ (fun i H2 _ p => by
    obtain ⟨acc, us, ys, rw2, _, _, I2, _, _, _, k⟩ := p
    exact ⟨k, fun a z => I2.alloc a (sub0 a z)⟩) ?_ ?_
  · rintro i x H2 H3 hi ⟨acc, us, ys, rw2, hus, hacc, I2, dr, e2, eds, k2⟩ ⟨s3, d, hd, hx⟩
    have sub : Same (hdn (Msk M r σ ss) H1) (hdn (Msk M r (wipe σ vs) (wipeS ss vs)) H2) := mk_same fun b o n h =>
      ⟨fun z => n (sub1 b z), k2 b o h (fun z => n (.inr (.inl z))) fun z => n (.inl (by rw [z]; exact hM))⟩
    have hx' := hx _ sub I2.alloc
    have I3 := I2.grow s3
    rw [List.drop_eq_getElem_cons hi] at e2
    have ed : xs[i] = d := by
      rw [List.getElem?_eq_getElem hi] at hd
      exact Option.some.inj hd
    rw [ed] at e2
    unfold lcGo at e2
    split at e2
    next => cases e2
    next ss1 g1 =>
      refine hg M r (wipe σ vs) H3 (wipeS ss vs) rw2 x d ss1 _ I3 hx' g1 fun σ1 o1 J1 w1 => ⟨wipe_same o1, ?_⟩
      have subw : ∀ a, Msk M r (wipe σ vs) (wipeS ss vs) a → Msk M r σ1 ss1 a := fun a z => by
        rcases z with z | z | z
        · exact .inl z
        · exact .inr (.inl z)
        · obtain ⟨j, es, z1, z2⟩ := z
          have hj : j ∉ vs := fun y => by
            rw [wipeS_at, if_pos y] at z1
            cases q : ss[j]? with
            | none => rw [q] at z1; cases z1
            | some t => rw [q] at z1; cases z1
          exact .inr (.inr ⟨j, es, by rw [(o1.2.2 j hj).2]; exact z1, by rw [(o1.2.2 j hj).1]; exact z2⟩)
      have backI : ∀ {H4 : Hp} {rw4 : Ro}, KeepR r H3 H4 → ER P M r σ1 H4 ss1 rw4 → ER P M r (wipe σ vs) H4 (wipeS ss vs) rw4 := fun {H4 rw4} k4 I4 => by
        refine I3.back (fun b o e n _ => k4 b o e n) (k4.live I3) fun a h => ?_
        obtain ⟨_, sa, h1, h2⟩ := I4.rk a h
        exact ⟨sa, h1, (mk_sub subw).seq h2⟩
      split at e2
      next => cases e2
      next rw5 t1 =>
        refine ⟨M, r, ss1, rw2, true, rw5, J1, t1, fun H4 k4 I4 => ?_⟩
        refine L2.iteT ?_
        split at e2
        next y rw6 t2 =>
          split at e2
          next zs rw7 t3 =>
            cases e2
            refine ⟨M, r, ss1, rw5, _, rw6, I4, t2, fun v H5 k5 I5 hv => ?_⟩
            have hD3 := s3 D _ hus
            have hD5 : H5 D = some (.lst us) := k5 D _ (k4 D _ hD3 rD) rD
            refine ⟨us, hD5, ?_, ?_⟩
            · rw [DRAll.length dr, List.length_append]
              exact sz_lt (by omega)
            · have I6 := backI (k4.trans k5) I5
              have I7 : ER P M r (wipe σ vs) (upd H5 D (.lst (us ++ [v]))) (wipeS ss vs) rw6 := I6.hid hM
              have sH : Same (hdn (Msk M r (wipe σ vs) (wipeS ss vs)) H5) (hdn (Msk M r (wipe σ vs) (wipeS ss vs)) (upd H5 D (.lst (us ++ [v])))) := mk_same fun b o n h => by
                have nb : b ≠ D := fun z => n (.inl (by rw [z]; exact hM))
                exact ⟨n, by rw [upd_ne nb]; exact h⟩
              have c5 : Same (hdn (Msk M r (wipe σ vs) (wipeS ss vs)) H2) (hdn (Msk M r (wipe σ vs) (wipeS ss vs)) H5) := KeepR.msk (((KeepR.of s3).trans k4).trans k5)
              refine ⟨acc ++ [y], us ++ [v], zs, rw6, upd_same, by rw [List.length_append]; simp; omega, I7, ?_, t3, by rw [eds]; simp, ?_⟩
              · rw [← List.append_assoc]
                refine DRAll.append (drAll_mono sH _ _ (drAll_mono c5 _ _ dr)) (.cons ?_ .nil)
                refine dr_mono sH _ _ ?_
                have hv' : DR P.K (hdn (Msk M r σ1 ss1) H5) v y := hv
                exact dr_mono (mk_sub subw) _ _ hv'
              · intro b o hb hr nb
                rw [upd_ne nb]
                exact k5 b o (k4 b o (s3 b o (k2 b o hb hr nb)) hr) hr
          next => cases e2
        next => cases e2
      next rw5 t1 =>
        refine ⟨M, r, ss1, rw2, false, rw5, J1, t1, fun H4 k4 I4 => ?_⟩
        refine L2.iteF ?_
        have hD3 := s3 D _ hus
        have c4 : Same (hdn (Msk M r (wipe σ vs) (wipeS ss vs)) H2) (hdn (Msk M r (wipe σ vs) (wipeS ss vs)) H4) := KeepR.msk ((KeepR.of s3).trans k4)
        exact ⟨acc, us, ys, rw5, k4 D _ hD3 rD, by omega, backI k4 I4, drAll_mono c4 _ _ dr, e2, eds, fun b o hb hr nb => k4 b o (s3 b o (k2 b o hb hr nb)) hr⟩
  · rintro H2 ⟨acc, us, ys, rw2, hus, hacc, I2, dr, e2, eds, k2⟩
    rw [List.drop_length] at e2
    unfold lcGo at e2
    cases e2
    rw [List.append_nil] at eds
    subst eds
    refine q us H2 k2 ?_ hus (drAll_mono (mk_sub sub0) _ _ dr)
    refine I1.back (fun b o hb n nm => k2 b o hb n fun z => nm (by rw [z]; exact hM)) I2.m0 fun a h => ?_
    obtain ⟨_, sa, h1, h2⟩ := I2.rk a h
    exact ⟨sa, h1, (mk_sub sub0).seq h2⟩
end
/-- the turns of a comprehension with two fors; n: how many items there may be yet -/
def lcGo2 (g : PyData → List Sl → Option (List Sl)) (mi1 : Mx (List PyData)) (vs1 : List Nat) (g1 : PyData → List Sl → Option (List Sl)) (tt1 : Mx Bool) (te : Mx Vl) (ss : List Sl) : List PyData → Nat → Ro → Option (List PyData × Ro)
  | [], _, rw => some ([], rw)
  | x :: xs, n, rw => match g x ss with
    | none => none
    | some ss1 => if noOwn ss1 vs1 = true then (match mi1 ss1 rw with
      | none => none
      | some (us, rw1) => if us.length ≤ n then (match lcGo g1 tt1 te (wipeS ss1 vs1) us rw1 with
        | none => none
        | some (ys, rw2) => (match lcGo2 g mi1 vs1 g1 tt1 te ss xs (n - us.length) rw2 with
          | some (zs, rw3) => some (ys ++ zs, rw3)
          | none => none)) else none) else none
def mLc2 (vs : List Nat) (mi : Mx (List PyData)) (g : PyData → List Sl → Option (List Sl)) (mi1 : Mx (List PyData)) (vs1 : List Nat) (g1 : PyData → List Sl → Option (List Sl)) (tt1 : Mx Bool) (te : Mx Vl) : Mx (List PyData) := fun ss rw => if noOwn ss vs = true then
    (match mi ss rw with
    | some (xs, rw1) => lcGo2 g mi1 vs1 g1 tt1 te (wipeS ss vs) xs 100000 rw1
    | none => none)
  else none
section
variable {P : Pm} {mi mi1 : Mx (List PyData)} {g g1 : PyData → List Sl → Option (List Sl)} {tt1 : Mx Bool} {te : Mx Vl} {t t1 : TG} {vs vs1 : List Nat}
theorem tL_lc2 (hg : GOk P t g vs) (hg1 : GOk P t1 g1 vs1) : ∀ σ H Q, tL P (mLc2 vs mi g mi1 vs1 g1 tt1 te) σ H Q → tLc2 (tI P mi) t (tT P mYes) (tI P mi1) t1 (tT P tt1) (tE P te) vs vs1 σ H Q := by
  rintro σ H Q ⟨M, r, ss, rw, ds, rw', I, e, q⟩
  unfold mLc2 at e
  split at e
  next hn =>
    split at e
    next xs rw1 e1 =>
      refine ⟨M, r, ss, rw, xs, rw1, I, e1, fun J H1 k1 I1 wk => fun D hD => ?_⟩
      have hD0 : H D = none := by
        cases z : H D with
        | none => rfl
        | some o =>
          by_cases hr : r = some D
          · obtain ⟨_, sa, e, _⟩ := I1.rk D hr
            rw [hD] at e; cases e
          · rw [k1 D o z hr] at hD; cases hD
      let M' : Addr → Prop := fun a => M a ∨ a = D
      have IM : ER P M' r (wipe σ vs) (upd H1 D (.lst [])) (wipeS ss vs) rw1 := (I1.hide hD).wipe vs
      let Pv : Nat → Hp → Prop := fun i H2 => ∃ (acc : List PyData) (us : List V) (ys : List PyData) (n : Nat) (rw2 : Ro), H2 D = some (.lst us) ∧ acc.length + n ≤ 100000 ∧ ER P M' r (wipe σ vs) H2 (wipeS ss vs) rw2 ∧
        DRAll P.K (hdn (Msk M' r (wipe σ vs) (wipeS ss vs)) H2) us acc ∧ lcGo2 g mi1 vs1 g1 tt1 te (wipeS ss vs) (xs.drop i) n rw2 = some (ys, rw') ∧ ds = acc ++ ys ∧ KeepR r H1 H2
      have al : ∀ {H2 : Hp}, KeepR r H1 H2 → (∀ a, r = some a → H2 a ≠ none) → ∀ a, Msk M r σ ss a → H2 a ≠ none := fun {H2} k hr a z => by
        by_cases hra : r = some a
        · exact hr a hra
        · have z1 := I1.alloc a z
          cases y : H1 a with
          | none => exact absurd y z1
          | some o => rw [k a o y hra]; simp
      have W : Walk J xs.length (fun H2 => KeepR r H1 H2 ∧ ∀ a, r = some a → H2 a ≠ none) (fun i H2 x H3 => Same H2 H3 ∧ ∃ d, xs[i]? = some d ∧ ∀ S1, Same (hdn (Msk M r σ ss) H1) (hdn S1 H2) → (∀ a, S1 a → H2 a ≠ none) → DR P.K (hdn S1 H3) x d) := by
        refine ⟨fun i H2 hi h => ((wk _ H2 h.1.msk (al h.1 h.2)).1 i hi).1, fun H2 h => (wk _ H2 h.1.msk (al h.1 h.2)).2, fun i H2 x H3 hi h y => ?_⟩
        obtain ⟨s, d, h1, h2⟩ := ((wk _ H2 h.1.msk (al h.1 h.2)).1 i hi).2 x H3 y
        refine ⟨s, d, h1, fun S1 s1 a1 => ?_⟩
        obtain ⟨_, d', h1', h2'⟩ := ((wk S1 H2 s1 a1).1 i hi).2 x H3 y
        rw [h1] at h1'
        cases h1'
        exact h2'
      have w0 : Pv 0 (upd H1 D (.lst [])) := ⟨[], [], ds, 100000, rw1, upd_same, Nat.le_refl _, IM, .nil, e, rfl, KeepR.of (upd_same' hD)⟩
      refine ⟨fun i m H => m = xs.length - i ∧ i ≤ xs.length ∧ Pv i H, ⟨xs.length, rfl, Nat.zero_le _, w0⟩, ?_⟩
      rintro i m H2 ⟨rfl, hi0, p⟩
      obtain ⟨acc, us, ys, n, rw2, hus, hacc, I2, dr, e2, eds, k2⟩ := p
      have g2 : KeepR r H1 H2 ∧ ∀ a, r = some a → H2 a ≠ none := ⟨k2, fun a h => by obtain ⟨_, sa, e, _⟩ := I2.rk a h; rw [e]; simp⟩
      by_cases hi : i < xs.length
      · refine .inr ⟨W.goes i H2 hi g2, Pv (i + 1), fun H' p' => ⟨xs.length - (i + 1), by omega, rfl, hi, p'⟩, fun x H3 y => ?_⟩
        obtain ⟨s3, d, hd, hx⟩ := W.yields i H2 x H3 hi g2 y
        have sub : Same (hdn (Msk M r σ ss) H1) (hdn (Msk M' r (wipe σ vs) (wipeS ss vs)) H2) := mk_same fun b o n h => by
          have nb : b ≠ D := ne_of_none h hD
          refine ⟨fun z => ?_, k2 b o h fun z => n (.inr (.inl z))⟩
          rcases z with (z | z) | z | z
          · exact n (.inl z)
          · exact nb z
          · exact n (.inr (.inl z))
          · exact n (.inr (.inr (own_wipe z)))
        have hx' := hx _ sub I2.alloc
        have I3 := I2.grow s3
        rw [List.drop_eq_getElem_cons hi] at e2
        have ed : xs[i] = d := by
          rw [List.getElem?_eq_getElem hi] at hd
          exact Option.some.inj hd
        rw [ed] at e2
        unfold lcGo2 at e2
        split at e2
        next => cases e2
        next ss1 gq =>
          split at e2
          next hn1 =>
            split at e2
            next => cases e2
            next us1 rw3 e3 =>
              split at e2
              next hle =>
                split at e2
                next => cases e2
                next ys1 rw4 e4 =>
                  split at e2
                  next zs rw5 e5 =>
                    cases e2
                    have rD : r ≠ some D := fun z => (I2.rk D z).1 (.inr rfl)
                    refine hg M' r (wipe σ vs) H3 (wipeS ss vs) rw2 x d ss1 _ I3 hx' gq fun σ1 o1 J1 w1 => ⟨wipe_same o1, ?_⟩
                    have subw : ∀ a, Msk M' r (wipe σ vs) (wipeS ss vs) a → Msk M' r σ1 ss1 a := fun a z => by
                      rcases z with z | z | z
                      · exact .inl z
                      · exact .inr (.inl z)
                      · obtain ⟨j, es, z1, z2⟩ := z
                        have hj : j ∉ vs := fun y => by
                          rw [wipeS_at, if_pos y] at z1
                          cases q : ss[j]? with
                          | none => rw [q] at z1; cases z1
                          | some t => rw [q] at z1; cases z1
                        exact .inr (.inr ⟨j, es, by rw [(o1.2.2 j hj).2]; exact z1, by rw [(o1.2.2 j hj).1]; exact z2⟩)
                    have subw' : ∀ a, Msk M' r σ1 ss1 a → Msk M' r (wipe σ vs) (wipeS ss vs) a := fun a z => by
                      rcases z with z | z | z
                      · exact .inl z
                      · exact .inr (.inl z)
                      · exact .inr (.inr (w1 a z))
                    refine ⟨M', r, ss1, rw2, true, rw2, J1, rfl, fun H4 k4 I4 => ?_⟩
                    refine L2.iteT ?_
                    refine ⟨M', r, ss1, rw2, us1, rw3, I4, e3, fun J2 H5 k5 I5 wk5 => ?_⟩
                    have hD3 := s3 D _ hus
                    have hD5 : H5 D = some (.lst us) := k5 D _ (k4 D _ hD3 rD) rD
                    have c5 : Same (hdn (Msk M' r (wipe σ vs) (wipeS ss vs)) H2) (hdn (Msk M' r (wipe σ vs) (wipeS ss vs)) H5) := KeepR.msk (((KeepR.of s3).trans k4).trans k5)
                    refine lc_in hg1 I5 (.inr rfl) hn1 wk5 hD5 (drAll_mono (mk_sub subw') _ _ (drAll_mono c5 _ _ dr)) (by omega) e4 fun us2 H6 k6 I6 hD6 dr6 => ?_
                    have k36 : ∀ b o, H3 b = some o → r ≠ some b → b ≠ D → H6 b = some o := fun b o h1 h2 h3 => k6 b o (k5 b o (k4 b o h1 h2) h2) h2 h3
                    have hlen := lcGo_len e4
                    refine ⟨acc ++ ys1, us2, zs, n - us1.length, rw4, hD6, by rw [List.length_append]; omega, ?_, drAll_mono (mk_sub subw) _ _ dr6, e5, by rw [eds]; simp, fun b o hb hr => k36 b o (s3 b o (k2 b o hb hr)) hr (ne_of_none hb hD)⟩
                    refine I3.back (fun b o e n nm => k36 b o e n fun z => nm (.inr z)) I6.m0 fun a h => ?_
                    obtain ⟨_, sa, h1, h2⟩ := I6.rk a h
                    exact ⟨sa, h1, (mk_sub subw).seq h2⟩
                  next => cases e2
              next => cases e2
          next => cases e2
      · have ei : i = xs.length := by omega
        subst ei
        refine .inl ⟨W.stops H2 g2, ?_⟩
        rw [List.drop_length] at e2
        unfold lcGo2 at e2
        cases e2
        rw [List.append_nil] at eds
        subst eds
        have sub0 : ∀ a, Msk M' r σ ss a → Msk M' r (wipe σ vs) (wipeS ss vs) a := fun a z => by
          rcases z with z | z | z
          · exact .inl z
          · exact .inr (.inl z)
          · exact .inr (.inr (own_unwipe hn z))
        have IH : ER P M' r σ (upd H1 D (.lst [])) ss rw1 := I1.hide hD
        have IE : ER P M' r σ H2 ss rw' := by
          refine IH.back (fun b o hb n nm => ?_) I2.m0 fun a h => ?_
          · have nb : b ≠ D := fun z => nm (.inr z)
            rw [upd_ne nb] at hb
            exact k2 b o hb n
          · obtain ⟨_, sa, h1, h2⟩ := I2.rk a h
            exact ⟨sa, h1, (mk_sub sub0).seq h2⟩
        exact q D us H2 (k1.trans k2) IE hD0 hus (drAll_mono (mk_sub sub0) _ _ dr)
    next => cases e
  next => cases e
variable {X : Cx}
theorem fl_lc2 {elt tg iter tg1 iter1 : Expr} {ifs1 : List Expr} {scope : Scope} {own : List (Str × Nat)} {pos : Pos}
    (hi : FI X P tg iter mi) (ok : BlkOk X.N X.env.scope scope own) (hv : own.map (·.2) = vs) (hv1 : ∀ i ∈ vs1, i ∈ vs) (hg : GOk P t g vs) (hg1 : GOk P t1 g1 vs1)
    (hgp : ∀ (s : Shared) (H : Hp) (C : Addr) (cl : List (Str × Addr)) (fp : List Addr), PG (X.blk s H scope (compEnvC scope cl C X.env) fp) tg t)
    (hi1 : ∀ (s : Shared) (H : Hp) (C : Addr) (cl : List (Str × Addr)) (fp : List Addr), FI (X.blk s H scope (compEnvC scope cl C X.env) fp) P tg1 iter1 mi1)
    (hgp1 : ∀ (s : Shared) (H : Hp) (C : Addr) (cl : List (Str × Addr)) (fp : List Addr), PG (X.blk s H scope (compEnvC scope cl C X.env) fp) tg1 t1)
    (ht : ∀ (s : Shared) (H : Hp) (C : Addr) (cl : List (Str × Addr)) (fp : List Addr), PTs (X.blk s H scope (compEnvC scope cl C X.env) fp) ifs1 (tT P tt1))
    (he : ∀ (s : Shared) (H : Hp) (C : Addr) (cl : List (Str × Addr)) (fp : List Addr), FE (X.blk s H scope (compEnvC scope cl C X.env) fp) P elt te) (hN : X.N.Nodup) (hc : X.calm = true := by rfl) (hs : ∀ x, foldedSetIterable iter X.env x = pure x := by intro _; rfl) (hs1 : ∀ env x, foldedSetIterable iter1 env x = pure x := by intro _ _; rfl) :
    FL X P (.ListComp elt [⟨tg, iter, [], 0⟩, ⟨tg1, iter1, ifs1, 0⟩] scope pos) (mLc2 vs mi g mi1 vs1 g1 tt1 te) := by
  subst hv
  exact PE.imp (pe_lc2 hc hN hi ok hv1 hgp (fun _ _ _ _ _ => fts_nil) hi1 hgp1 ht he hs hs1) (tL_lc2 hg hg1)
theorem st_lc2 {i : Nat} {y : Str} {py : Pos} {elt tg iter tg1 iter1 : Expr} {ifs1 : List Expr} {scope : Scope} {own : List (Str × Nat)} {pos spos : Pos}
    (hy : X.N[i]? = some y) (hyl : X.env.scope.names.lookup y = some .local) (hsw : swapsWith (.ListComp elt [⟨tg, iter, [], 0⟩, ⟨tg1, iter1, ifs1, 0⟩] scope pos) (some (.Name y py)) spos.line X.env = pure true)
    (hi : FI X P tg iter mi) (ok : BlkOk X.N X.env.scope scope own) (hv : own.map (·.2) = vs) (hv1 : ∀ i ∈ vs1, i ∈ vs) (hg : GOk P t g vs) (hg1 : GOk P t1 g1 vs1)
    (hgp : ∀ (s : Shared) (H : Hp) (C : Addr) (cl : List (Str × Addr)) (fp : List Addr), PG (X.blk s H scope (compEnvC scope cl C X.env) fp) tg t)
    (hi1 : ∀ (s : Shared) (H : Hp) (C : Addr) (cl : List (Str × Addr)) (fp : List Addr), FI (X.blk s H scope (compEnvC scope cl C X.env) fp) P tg1 iter1 mi1)
    (hgp1 : ∀ (s : Shared) (H : Hp) (C : Addr) (cl : List (Str × Addr)) (fp : List Addr), PG (X.blk s H scope (compEnvC scope cl C X.env) fp) tg1 t1)
    (ht : ∀ (s : Shared) (H : Hp) (C : Addr) (cl : List (Str × Addr)) (fp : List Addr), PTs (X.blk s H scope (compEnvC scope cl C X.env) fp) ifs1 (tT P tt1))
    (he : ∀ (s : Shared) (H : Hp) (C : Addr) (cl : List (Str × Addr)) (fp : List Addr), FE (X.blk s H scope (compEnvC scope cl C X.env) fp) P elt te) (hN : X.N.Nodup) (hc : X.calm = true := by rfl) (hs : ∀ x, foldedSetIterable iter X.env x = pure x := by intro _; rfl) (hs1 : ∀ env x, foldedSetIterable iter1 env x = pure x := by intro _ _; rfl) :
    PS X (.Assign [.Name y py] (.ListComp elt [⟨tg, iter, [], 0⟩, ⟨tg1, iter1, ifs1, 0⟩] scope pos) spos) (tAsg (tL P (mLc2 vs mi g mi1 vs1 g1 tt1 te)) (gName i)) := by
  subst hv
  exact PS.imp (ps_setLc2 hc hN hy hyl hsw hi ok hv1 hgp (fun _ _ _ _ _ => fts_nil) hi1 hgp1 ht he hs hs1) fun D σ H h => tL_lc2 hg hg1 σ H _ h
end
end FL
/-! The row of a script: its cells read and set; zip of any two. -/
namespace FL
open PySem L2
section
variable {P : Pm} {X : Cx} {fx : Nat → Addr} {W : WX} {M : Addr → Prop} {r : Option Addr} {σ : St} {H : Hp} {ss : List Sl} {rw : Ro} {i : Nat} {x : Str} {p0 p1 pos : Pos} {z b : Expr} {fa fb : Mx Vl}
theorem mk_out {S : Addr → Prop} {H : Hp} {a : Addr} {o : HO} (h : S a) : Same (hdn S H) (hdn S (upd H a o)) := mk_same fun b u n e => ⟨n, by
  have nb : b ≠ a := fun z => n (by rw [z]; exact h)
  rw [upd_ne nb]
  exact e⟩
/-- the row's two numbers change -/
theorem ER.setRow (I : ER P M r σ H ss rw) {a sa : Addr} (hr : r = some a) (hs : H a = some (.lst [.ref sa, .int rw.1, .int rw.2])) (rw' : Ro) : ER P M r σ (upd H a (.lst [.ref sa, .int rw'.1, .int rw'.2])) ss rw' := by
  have hS : Msk M r σ ss a := .inr (.inl hr)
  have sub : Same (hdn (Msk M r σ ss) H) (hdn (Msk M r σ ss) (upd H a (.lst [.ref sa, .int rw'.1, .int rw'.2]))) := mk_out hS
  refine ⟨I.len, fun j y h => ?_, fun j ds h => ?_, I.rs, fun c h => ?_, fun c h => ?_, I.inj⟩
  · obtain ⟨u, h1, h2⟩ := I.sl j y h
    exact ⟨u, h1, VR.mono sub h2⟩
  · obtain ⟨c, us, h1, h2, h3, h4, h5⟩ := I.ow j ds h
    have nc : c ≠ a := fun z => h5 (by rw [z]; exact hr)
    exact ⟨c, us, h1, by rw [upd_ne nc]; exact h2, drAll_mono sub _ _ h3, h4, h5⟩
  · rw [hr] at h
    cases h
    obtain ⟨h1, sc, h2, h3⟩ := I.rk a hr
    rw [hs] at h2
    cases h2
    exact ⟨h1, sa, upd_same, sub.seq h3⟩
  · by_cases z : c = a
    · subst z
      rw [upd_same]
      simp
    · rw [upd_ne z]
      exact I.m0 c h
theorem Gr.setRow {a : Addr} {o : HO} (hr : r = some a) : Gr r σ H ss σ (upd H a o) ss := ⟨fun b u e n _ => by
  have nb : b ≠ a := fun z => n (by rw [z]; exact hr)
  rw [upd_ne nb]
  exact e, fun _ y => .inl y, fun b y => by
  by_cases q : b = a
  · subst q
    rw [upd_same]
    simp
  · rw [upd_ne q]
    exact y⟩
/-- the row's own numbers: 1 the counter, 2 the seed -/
def mRow1 (i : Nat) : Mx Vl := fun ss rw => match ss[i]? with
  | some .row => some (.dat (.int rw.1), rw)
  | _ => none
def mRow2 (i : Nat) : Mx Vl := fun ss rw => match ss[i]? with
  | some .row => some (.dat (.int rw.2), rw)
  | _ => none
theorem fe_row1 {jj : Nat} {p2 : Pos} (hv : PE X (.Name x p0) (tVar i)) (hK : X.K = P.K := by rfl) (hs : PlainIx (.Constant (.int 1) jj p2) := by exact (fun _ _ => rfl)) : FE X P (.Subscript (.Name x p0) (.Constant (.int 1) jj p2) pos) (mRow1 i) := by
  refine PE.imp (pe_ix ix_seq hv pe_int hs) ?_
  rw [hK]
  rintro σ H Q ⟨M, r, ss, rw, y, rw', I, e, q⟩
  unfold mRow1 at e
  split at e
  next hi =>
    cases e
    obtain ⟨a, h1, h2⟩ := I.rs i hi
    obtain ⟨_, sa, h3, _⟩ := I.rk a h1
    refine ⟨_, h2, .inl ⟨a, _, 1, .int rw.1, rfl, rfl, SqL.of h3, rfl, q _ H (KeepR.refl _ _) I (DR.int _)⟩⟩
  next => cases e
theorem fe_row2 {jj : Nat} {p2 : Pos} (hv : PE X (.Name x p0) (tVar i)) (hK : X.K = P.K := by rfl) (hs : PlainIx (.Constant (.int 2) jj p2) := by exact (fun _ _ => rfl)) : FE X P (.Subscript (.Name x p0) (.Constant (.int 2) jj p2) pos) (mRow2 i) := by
  refine PE.imp (pe_ix ix_seq hv pe_int hs) ?_
  rw [hK]
  rintro σ H Q ⟨M, r, ss, rw, y, rw', I, e, q⟩
  unfold mRow2 at e
  split at e
  next hi =>
    cases e
    obtain ⟨a, h1, h2⟩ := I.rs i hi
    obtain ⟨_, sa, h3, _⟩ := I.rk a h1
    refine ⟨_, h2, .inl ⟨a, _, 2, .int rw.2, rfl, rfl, SqL.of h3, rfl, q _ H (KeepR.refl _ _) I (DR.int _)⟩⟩
  next => cases e
/-- len(row[0]) -/
def mRowLen (i : Nat) (n : Nat) : Mx Vl := fun ss rw => match ss[i]? with
  | some .row => some (.dat (.int n), rw)
  | _ => none
theorem fe_rowLen {jj : Nat} {p2 p3 p4 : Pos} (hv : PE X (.Name x p0) (tVar i)) (hm : X.mg "len" = none) (hK : X.K = P.K := by rfl) (hg : Gl X "len" := by rfl) (hs : PlainIx (.Constant (.int 0) jj p2) := by exact (fun _ _ => rfl))
    (he0 : starEach [.Subscript (.Name x p0) (.Constant (.int 0) jj p2) p3] X.env = (false, eval (.Subscript (.Name x p0) (.Constant (.int 0) jj p2) p3) X.env) :: starEach [] X.env := by rfl) (hpl : (backTo pos (starEach [] X.env)).any (·.1) = false := by rfl) :
    FE X P (.Call (.Name "len" p4) [.Subscript (.Name x p0) (.Constant (.int 0) jj p2) p3] [] pos) (mRowLen i P.ns.length) := by
  refine PE.imp (pe_callB FL.call_lenD hg hm (by decide +kernel) (pa_cons (pe_ix ix_seq hv pe_int hs) pa_nil he0) (by decide) (by decide) he0 hpl) ?_
  rw [hK]
  rintro σ H Q ⟨M, r, ss, rw, y, rw', I, e, q⟩
  unfold mRowLen at e
  split at e
  next hi =>
    cases e
    obtain ⟨a, h1, h2⟩ := I.rs i hi
    obtain ⟨_, sa, h3, h4⟩ := I.rk a h1
    refine ⟨_, h2, .inl ⟨a, _, 0, .ref sa, rfl, rfl, SqL.of h3, rfl, ⟨_, P.ns.length, rfl, .inl ⟨_, (mk_le _ _).seq h4, by rw [List.length_map]⟩, q _ H (KeepR.refl _ _) I (DR.int _)⟩⟩⟩
  next => cases e
/-- row[0][b] -/
def mRowAt (i : Nat) (ns : List Int) (fb : Mx Vl) : Mx Vl := bnd fb fun y => fun ss rw => match ss[i]?, y with
  | some .row, .dat (.int k) => (match atI ns k with
    | some c => some (.dat (.int c), rw)
    | none => none)
  | _, _ => none
theorem atI_map {α β : Type} (f : α → β) {xs : List α} {k : Int} {c : α} (h : atI xs k = some c) : atI (xs.map f) k = some (f c) := by
  unfold atI at h ⊢
  rw [List.length_map]
  cases e : ixN xs.length k with
  | none => rw [e] at h; cases h
  | some j =>
    rw [e] at h
    show (xs.map f)[j]? = _
    have h : xs[j]? = some c := h
    rw [List.getElem?_map, h]
    rfl
theorem fe_rowAt {jj : Nat} {p2 p3 : Pos} (hv : PE X (.Name x p0) (tVar i)) (hb : FE X P b fb) (hK : X.K = P.K := by rfl) (hs : PlainIx (.Constant (.int 0) jj p2) := by exact (fun _ _ => rfl)) (hs2 : PlainIx b := by exact (fun _ _ => rfl)) :
    FE X P (.Subscript (.Subscript (.Name x p0) (.Constant (.int 0) jj p2) p3) b pos) (mRowAt i P.ns fb) := by
  refine PE.imp (pe_ix ix_seq (pe_ix ix_seq hv pe_int hs) hb hs2) ?_
  rw [hK]
  rintro σ H Q ⟨M, r, ss, rw, y, rw', I, e, q⟩
  obtain ⟨k, rw1, e1, e⟩ := bnd_some e
  split at e
  next kk hi =>
    split at e
    next c hc =>
      cases e
      obtain ⟨a, h1, h2⟩ := I.rs i hi
      obtain ⟨_, sa, h3, h4⟩ := I.rk a h1
      refine ⟨_, h2, .inl ⟨a, _, 0, .ref sa, rfl, rfl, SqL.of h3, rfl, ?_⟩⟩
      refine ⟨M, r, ss, rw, _, _, I, e1, fun u H1 k1 I1 hu => ?_⟩
      rw [vr_int hu]
      obtain ⟨_, sa', g3, g4⟩ := I1.rk a h1
      have h4' : SqL P.K (hdn (Msk M r σ ss) H1) sa (P.ns.map V.int) := k1.msk.seq h4
      exact .inl ⟨sa, _, kk, .int c, rfl, rfl, (mk_le _ _).seq h4', atI_map _ hc, q _ H1 k1 I1 (DR.int _)⟩
    next => cases e
  next => cases e
/-- row[1] = e, row[2] = e -/
def sRow (i : Nat) (b : Bool) (m : Mx Vl) : Sx := fun ss rw => match m ss rw with
  | some (.dat (.int k), rw1) => (match ss[i]? with
    | some .row => some (.nx ss (if b then (rw1.1, k) else (k, rw1.2)))
    | _ => none)
  | _ => none
theorem fs_row1 {jj : Nat} {p2 p3 : Pos} {e : Expr} {m : Mx Vl} (hv : PE X (.Name x p0) (tVar i)) (he : FE X P e m) (hs : swapsWithSole [.Subscript (.Name x p0) (.Constant (.int 1) jj p2) p3] e pos.line X.env = pure false := by rfl) (hw : swappedStores [.Subscript (.Name x p0) (.Constant (.int 1) jj p2) p3] e X.env = pure none := by rfl) :
    FS X P fx W (.Assign [.Subscript (.Name x p0) (.Constant (.int 1) jj p2) p3] e pos) (sRow i false m) := by
  refine PS.imp (ps_asg he (pg_sub hv pe_int set_list) hs hw rfl) ?_
  rintro D σ H ⟨M, r, ss, rw, o, I, e, q⟩
  unfold sRow at e
  split at e
  next k rw1 e1 =>
    split at e
    next hi =>
      cases e
      refine ⟨M, r, ss, rw, _, rw1, I, e1, fun v H1 k1 I1 hv => ?_⟩
      obtain ⟨a, h1, h2⟩ := I1.rs i hi
      obtain ⟨_, sa, h3, _⟩ := I1.rk a h1
      rw [vr_int hv]
      refine ⟨_, h2, a, _, 1, 1, rfl, rfl, h3, rfl, ?_⟩
      exact q σ _ ((Gr.ofR k1 I1).trans (Gr.setRow h1)) (I1.setRow h1 h3 (k, rw1.2))
    next => cases e
  next => cases e
theorem fs_row2 {jj : Nat} {p2 p3 : Pos} {e : Expr} {m : Mx Vl} (hv : PE X (.Name x p0) (tVar i)) (he : FE X P e m) (hs : swapsWithSole [.Subscript (.Name x p0) (.Constant (.int 2) jj p2) p3] e pos.line X.env = pure false := by rfl) (hw : swappedStores [.Subscript (.Name x p0) (.Constant (.int 2) jj p2) p3] e X.env = pure none := by rfl) :
    FS X P fx W (.Assign [.Subscript (.Name x p0) (.Constant (.int 2) jj p2) p3] e pos) (sRow i true m) := by
  refine PS.imp (ps_asg he (pg_sub hv pe_int set_list) hs hw rfl) ?_
  rintro D σ H ⟨M, r, ss, rw, o, I, e, q⟩
  unfold sRow at e
  split at e
  next k rw1 e1 =>
    split at e
    next hi =>
      cases e
      refine ⟨M, r, ss, rw, _, rw1, I, e1, fun v H1 k1 I1 hv => ?_⟩
      obtain ⟨a, h1, h2⟩ := I1.rs i hi
      obtain ⟨_, sa, h3, _⟩ := I1.rk a h1
      rw [vr_int hv]
      refine ⟨_, h2, a, _, 2, 2, rfl, rfl, h3, rfl, ?_⟩
      exact q σ _ ((Gr.ofR k1 I1).trans (Gr.setRow h1)) (I1.setRow h1 h3 (rw1.1, k))
    next => cases e
  next => cases e
theorem gok_wide {t : TG} {g : PyData → List Sl → Option (List Sl)} {vs ws : List Nat} (h : GOk P t g vs) (hs : ∀ i ∈ vs, i ∈ ws) : GOk P t g ws := fun M r σ H ss rw v d ss' Q I hv e q =>
  h M r σ H ss rw v d ss' Q I hv e fun σ' o I' w => q σ' ⟨o.1, o.2.1, fun i hi => o.2.2 i fun z => hi (hs i z)⟩ I' w
/-- zip of two lists, of two tuples, of a list and a tuple -/
def mZ3 (fa fb : Mx Vl) : Mx (List PyData) := bnd fa fun x => bnd fb fun y => opt (match x, y with
  | .dat (.list ds), .dat (.list es) => some (zpD ds es)
  | .dat (.tuple ds), .dat (.tuple es) => some (zpD ds es)
  | .dat (.list ds), .dat (.tuple es) => some (zpD ds es)
  | _, _ => none)
theorem fi_zip3 {a b : Expr} {p pos tpos : Pos} {elts : List Expr} {kk : Nat} (ha : FE X P a fa) (hb : FE X P b fb) (hm : X.mg "zip" = none) (hK : X.K = P.K := by rfl) (hg : Gl X "zip" := by rfl)
    (hs : starEach [a, b] X.env = (false, eval a X.env) :: starEach [b] X.env := by rfl) (hs2 : starEach [b] X.env = (false, eval b X.env) :: starEach [] X.env := by rfl) (hpl : (backTo pos (starEach [b] X.env)).any (·.1) = false := by rfl) :
    FI X P (.Tuple elts kk tpos) (.Call (.Name "zip" p) [a, b] [] pos) (mZ3 fa fb) := by
  refine PI.imp (PI.or (fi_zip ha hb hm hK hg hs hs2 hpl) (fi_zipLT ha hb hm hK hg hs hs2 hpl)) ?_
  rintro σ H R ⟨M, r0, ss, rw, xs, rw', I, e, q⟩
  obtain ⟨y, rw1, e1, e⟩ := bnd_some e
  obtain ⟨z, rw2, e3, e⟩ := bnd_some e
  obtain ⟨e2, rfl⟩ := opt_some e
  split at e2
  next ds es =>
    cases e2
    refine .inl ⟨M, r0, ss, rw, _, rw', I, ?_, q⟩
    simp only [mZp, bnd, e1, e3, opt]
  next ds es =>
    cases e2
    refine .inl ⟨M, r0, ss, rw, _, rw', I, ?_, q⟩
    simp only [mZp, bnd, e1, e3, opt]
  next ds es =>
    cases e2
    refine .inr ⟨M, r0, ss, rw, _, rw', I, ?_, q⟩
    simp only [mZq, bnd, e1, e3, opt]
  next => cases e2
end
end FL
/-! A house made: its __init__ where the checks go through. -/
namespace FL
open PySem L2
section
variable {Pg : Program} {w : World} {K : PySem.W.Frag} {mg : Str → Option Value} {base : Heap} {ns : List Int} {C : Addr} {f : Addr} {fd : FuncData} {st : Stmt} {k : Nat}
/-- a method as it stands -/
def Hm (K : PySem.W.Frag) (C : Addr) (m qual : Str) (st : Stmt) : Prop := ∃ f fd, Fun K m qual st f fd ∧ Meth K C m f
theorem dm_L {m qual : Str} {mm : Sx} {N : List Str} {P : Pm} (h : Hm K C m qual st) (S : FnScope N ["self"] (defScope st)) (hk : (["self"] : List Str).length ≤ N.length)
    (B : ∀ (kV doc pm : Value) (an : Option Addr) (cdv ct : Value) (us : List Value), us.length = (["self"] : List Str).length → bindArgs (PySem.W.fnOf m qual (defArgs st) (defBody st) (defScope st) .none kV doc pm an cdv ct) ⟨us, []⟩ = pure ((["self"] : List Str).zip us))
    (hb : ∀ (f : Addr) (cdv : Value) (A : Around) (outer : List Env) (s : Shared) (H : Hp) (E : XK), Room k (A.deeper (PyProof.Rows.envOfC qual (defScope st) s.heap.objs.size f cdv)) → FSs (cxOf CX0 Pg w K mg base N qual (defScope st) f cdv A outer s H E).nox P (fun _ => 0) W0 (defBody st) mm)
    {F : List Vl → Option (List PyData)} (e : ∀ xs ds, F xs = some ds → bodyL N.length 1 mm xs = some ds) : Dm Pg w K mg base (k + 1) C m (spL P F) := by
  obtain ⟨f, fd, G, h1⟩ := h
  exact ⟨f, fd, spL_eq (fn_L G S hk fun cdv A outer s H E hr => hb f cdv A outer s H E hr) e, h1, G.binds B⟩
def spI (P : Pm) (C : Addr) (G : List PyData → List PyData → Prop) : Sp := fun vs H Q _ => ∃ S x dx v1 v2 ts ties, vs = [.ref x, v1, v2] ∧ Live S H ∧ ¬ S x ∧ H x = some (.ins C dx []) ∧ VR P (hdn (fun a => S a ∨ a = x) H) v1 (.dat (.list ts)) ∧ VR P (hdn (fun a => S a ∨ a = x) H) v2 (.dat (.list ties)) ∧
  G ts ties ∧ ∀ H', (∀ b o, b ≠ x → H b = some o → H' b = some o) → HouseAt P.K C (hdn S H') x ts ties → Q .non H'
abbrev psI : List Str := ["self", "things", "ties"]
def okI (F1 F2 : List Vl → Option Vl) (ts ties : List PyData) : Prop := F1 [.dat (.list ts)] = some (.dat .none) ∧ F2 [.dat (.list ts), .dat (.list ties)] = some (.dat .none)
theorem er_init {P : Pm} {S : Addr → Prop} {H : Hp} {x : Addr} {v1 v2 : V} {ts ties : List PyData} (hS : Live S H) (hx : H x ≠ none) (h1 : VR P (hdn (fun a => S a ∨ a = x) H) v1 (.dat (.list ts))) (h2 : VR P (hdn (fun a => S a ∨ a = x) H) v2 (.dat (.list ties))) :
    ER P (fun a => S a ∨ a = x) none [some (.ref x), some v1, some v2] H [.no, .vl (.dat (.list ts)), .vl (.dat (.list ties))] (0, 0) := by
  have own_no : ∀ a, ¬ Own [some (.ref x), some v1, some v2] [.no, .vl (.dat (.list ts)), .vl (.dat (.list ties))] a := fun a ⟨i, ds, e, _⟩ => by
    match i, e with
    | 0, e => cases e
    | 1, e => cases e
    | 2, e => cases e
    | n + 3, e => simp at e
  have sub : Same (hdn (fun a => S a ∨ a = x) H) (hdn (Msk (fun a => S a ∨ a = x) none [some (.ref x), some v1, some v2] [.no, .vl (.dat (.list ts)), .vl (.dat (.list ties))]) H) := mk_sub fun a z => by
    rcases z with z | z | z
    · exact z
    · cases z
    · exact (own_no a z).elim
  refine ⟨rfl, fun i y e => ?_, fun i ds e => ?_, fun i e => ?_, fun a e => (nomatch e), fun a z => ?_, fun i j a ds es e _ z => ?_⟩
  · match i, e with
    | 0, e => cases e
    | 1, e => cases e; exact ⟨v1, rfl, VR.mono sub h1⟩
    | 2, e => cases e; exact ⟨v2, rfl, VR.mono sub h2⟩
    | n + 3, e => simp at e
  · match i, e with
    | 0, e => cases e
    | 1, e => cases e
    | 2, e => cases e
    | n + 3, e => simp at e
  · match i, e with
    | 0, e => cases e
    | 1, e => cases e
    | 2, e => cases e
    | n + 3, e => simp at e
  · rcases z with z | z
    · exact hS a z
    · rw [z]; exact hx
  · exact (own_no a ⟨i, ds, e, z⟩).elim
/-- the two stores -/
theorem stores_I {P : Pm} {S : Addr → Prop} {H : Hp} {x dx : Addr} {σ : St} {ts ties : List PyData} {D : Ends} (hS : Live S H) (nS : ¬ S x) (hx : H x = some (.ins C dx [])) (s0 : σ[0]? = some (some (.ref x)))
    (I : ER P (fun a => S a ∨ a = x) none σ H [.no, .vl (.dat (.list ts)), .vl (.dat (.list ties))] (0, 0)) (c : Cls P.K C) (n1 : NoAttr P.K C "_things") (n2 : NoAttr P.K C "_ties")
    (q : ∀ H', (∀ b o, b ≠ x → H b = some o → H' b = some o) → HouseAt P.K C (hdn S H') x ts ties → D.nx σ H') :
    tSeq (sFld P.K (tVar 0) (tL P (bnd (mVar 1) fun x => opt (lstD x))) "_things") (sFld P.K (tVar 0) (tL P (bnd (mVar 2) fun x => opt (lstD x))) "_ties") D σ H := by
  refine ⟨_, none, _, (0, 0), ts, (0, 0), I, rfl, fun p vs H3 k3 I3 hp0 hp hd => ?_⟩
  have kx : ∀ {H' : Hp}, KeepR none H H' → ∀ b o, H b = some o → H' b = some o := fun k b o e => k b o e (by simp)
  have h3x := kx k3 _ _ hx
  have np : p ≠ x := fun z => by rw [z, hx] at hp0; cases hp0
  refine ⟨_, s0, x, C, dx, [], rfl, h3x, c, n1, by simp, ?_⟩
  refine ⟨_, none, _, (0, 0), ties, (0, 0), I3.hid (D := x) (.inl (.inr rfl)), rfl, fun p2 vs2 H5 k5 I5 hp50 hp5 hd5 => ?_⟩
  have kx5 : ∀ b o, (upd H3 x (.ins C dx (putF "_things" (V.ref p) []))) b = some o → H5 b = some o := fun b o e => k5 b o e (by simp)
  have h5x := kx5 x _ upd_same
  have np2 : p2 ≠ x := fun z => by rw [z, upd_same] at hp50; cases hp50
  refine ⟨_, s0, x, C, dx, _, rfl, h5x, c, n2, by simp [putF], ?_⟩
  have up : ∀ b o, b ≠ x → H3 b = some o → (upd H5 x (.ins C dx (putF "_ties" (V.ref p2) (putF "_things" (V.ref p) [])))) b = some o := fun b o nb e => by
    rw [upd_ne nb]
    exact kx5 b o (by rw [upd_ne nb]; exact e)
  have nSp : ¬ S p := fun z => hS p z hp0
  have nSp2 : ¬ S p2 := fun z => by
    have := hS p2 z
    cases y : H p2 with
    | none => exact this y
    | some o =>
      rw [upd_ne np2] at hp50
      rw [kx k3 _ _ y] at hp50
      cases hp50
  refine q _ (fun b o nb e => up b o nb (kx k3 b o e)) ⟨dx, p, p2, vs, vs2, mk_at nS upd_same, mk_at nSp (up p _ np hp), drAll_mono (mk_same fun b o n e => ?_) _ _ hd, mk_at nSp2 (by rw [upd_ne np2]; exact hp5), drAll_mono (mk_same fun b o n e => ?_) _ _ hd5⟩
  · have nb : b ≠ x := fun z => n (.inl (.inl (.inr z)))
    exact ⟨fun z => n (.inl (.inl (.inl z))), up b o nb e⟩
  · have nb : b ≠ x := fun z => n (.inl (.inl (.inl (.inr z))))
    exact ⟨fun z => n (.inl (.inl (.inl (.inl z)))), by rw [upd_ne nb]; exact e⟩
def rdI (P : Pm) (F1 F2 : List Vl → Option Vl) : TS := tSeq (tDrop (tE P (mCall F1 (mCons (mVar 1) mNil)))) (tSeq (tDrop (tE P (mCall F2 (mCons (mVar 1) (mCons (mVar 2) mNil))))) (tSeq (sFld P.K (tVar 0) (tL P (bnd (mVar 1) fun x => opt (lstD x))) "_things") (sFld P.K (tVar 0) (tL P (bnd (mVar 2) fun x => opt (lstD x))) "_ties")))
theorem init_ok {qual : Str} {P : Pm} {F1 F2 : List Vl → Option Vl} (F : Fun K "__init__" qual st f fd) (S : FnScope psI psI (defScope st)) (c : Cls P.K C) (n1 : NoAttr P.K C "_things") (n2 : NoAttr P.K C "_ties")
    (hb : ∀ (cdv : Value) (A : Around) (outer : List Env) (s : Shared) (H : Hp) (E : XK), Room k (A.deeper (PyProof.Rows.envOfC qual (defScope st) s.heap.objs.size f cdv)) → PSs (cxOf CX0 Pg w K mg base psI qual (defScope st) f cdv A outer s H E).nox (defBody st) (rdI P F1 F2)) :
    FnOk Pg w K mg base CX0 (k + 1) f fd psI (spI P C (okI F1 F2)) := by
  refine F.ok S (fun vs H Q E h => ?_) (fun cdv A outer s H vs Q E hr h => ⟨_, hb cdv A outer s H E hr, ?_⟩)
  · obtain ⟨S0, x, dx, v1, v2, ts, ties, rfl, _⟩ := h
    rfl
  · obtain ⟨S0, x, dx, v1, v2, ts, ties, rfl, hS, nS, hx, h1, h2, ⟨e1, e2⟩, q⟩ := h
    have I0 := er_init hS (by rw [hx]; simp) h1 h2
    have m1 : mCall F1 (mCons (mVar 1) mNil) [.no, .vl (.dat (.list ts)), .vl (.dat (.list ties))] (0, 0) = some (.dat .none, (0, 0)) := by
      show (opt (F1 [.dat (.list ts)]) : Mx Vl) [] (0, 0) = _
      rw [e1]
      rfl
    have m2 : mCall F2 (mCons (mVar 1) (mCons (mVar 2) mNil)) [.no, .vl (.dat (.list ts)), .vl (.dat (.list ties))] (0, 0) = some (.dat .none, (0, 0)) := by
      show (opt (F2 [.dat (.list ts), .dat (.list ties)]) : Mx Vl) [] (0, 0) = _
      rw [e2]
      rfl
    refine ⟨_, none, _, (0, 0), .dat .none, (0, 0), I0, m1, fun _ H1 k1 I1 _ => ⟨_, none, _, (0, 0), .dat .none, (0, 0), I1, m2, fun _ H2 k2 I2 _ => ?_⟩⟩
    have s2 : Same H H2 := fun b o e => k2 b o (k1 b o e (by simp)) (by simp)
    refine stores_I (S := S0) (fun a z => ?_) nS (s2 _ _ hx) rfl I2 c n1 n2 fun H' k' hh => ?_
    · have := hS a z
      cases y : H a with
      | none => exact absurd y this
      | some o => rw [s2 _ _ y]; simp
    · exact q H' (fun b o nb e => k' b o nb (s2 b o e)) hh
/-- the class, made -/
def Dh (Pg : Program) (w : World) (K : PySem.W.Frag) (mg : Str → Option Value) (base : Heap) (CX : CXT) (k : Nat) (C : Addr) (sp : Sp) : Prop :=
  ∃ f fd, FnOk Pg w K mg base CX k f fd psI sp ∧ Mk K C f ∧ mg "House" = some (.ref C) ∧ Binds K fd psI []
def mMake (F1 F2 : List Vl → Option Vl) (ma : Mx (List Vl)) : Mx Vl := bnd ma fun xs => match xs with
  | [.dat (.list ts), .dat (.list ties)] => opt (match F1 [.dat (.list ts)], F2 [.dat (.list ts), .dat (.list ties)] with
    | some (.dat .none), some (.dat .none) => some (.hse ts ties)
    | _, _ => none)
  | _ => opt none
variable {X : Cx} {e : Expr} {es : List Expr} {ma : Mx (List Vl)} {p pos : Pos}
theorem made_same {H1 : Hp} {x dx : Addr} (hx : H1 x = none) (hd : H1 dx = none) (u o : HO) : Same H1 (upd (upd H1 dx u) x o) := fun b z e => by
  rw [upd_ne (ne_of_none e hx), upd_ne (ne_of_none e hd)]
  exact e
theorem fe_make {F1 F2 : List Vl → Option Vl} (D : Dh X.prog X.w X.K X.mg X.base CX0 k C (spI (pm X.K ns C) C (okI F1 F2))) (hr : Room (k + 1) X.A) (ha : FA X (pm X.K ns C) (e :: es) ma)
    (hg : Gl X "House" := by rfl) (he : starEach (e :: es) X.env = (false, eval e X.env) :: starEach es X.env := by rfl) (hpl : (backTo pos (starEach es X.env)).any (·.1) = false := by rfl) :
    FE X (pm X.K ns C) (.Call (.Name "House" p) (e :: es) [] pos) (mMake F1 F2 ma) := by
  obtain ⟨f, fd, G, M, h1, h2⟩ := D
  refine PE.imp (pe_make M G hr hg h1 h2 .nil pass0 ha (by decide) he hpl) ?_
  rintro σ H Q ⟨M0, r, ss, rw, z, rw', I, e, q⟩
  obtain ⟨xs, rw1, e1, e⟩ := bnd_some e
  refine ⟨M0, r, ss, rw, xs, rw1, I, e1, fun vs H1 k1 I1 hv x dx hx hdx hne => ?_⟩
  split at e
  next ts ties =>
    obtain ⟨e2, rfl⟩ := opt_some e
    split at e2
    next f1 f2 =>
      cases e2
      cases hv with
      | cons v1 hv =>
        cases hv with
        | cons v2 hv =>
          cases hv
          rename_i u1 u2
          have s12 : Same H1 (upd (upd H1 dx (.own x)) x (.ins C dx [])) := made_same hx hdx _ _
          have see : Same (hdn (Msk M0 r σ ss) H1) (hdn (fun a => Msk M0 r σ ss a ∨ a = x) (upd (upd H1 dx (.own x)) x (.ins C dx []))) := mk_same fun b o n h =>
            ⟨fun y => y.elim n fun y => ne_of_none h hx y, s12 b o h⟩
          have nS : ¬ Msk M0 r σ ss x := fun y => I1.alloc x y hx
          refine ⟨Msk M0 r σ ss, x, dx, u1, u2, ts, ties, rfl, (I1.grow s12).alloc, nS, upd_same, VR.mono see v1, VR.mono see v2, ⟨f1, f2⟩, fun H' k' hh => ⟨rfl, ?_⟩⟩
          have s1 : Same H1 H' := fun b o y => k' b o (ne_of_none y hx) (s12 b o y)
          exact q _ H' (k1.trans (KeepR.of s1)) (I1.grow s1) ⟨x, rfl, hh⟩
    next => cases e2
  next => cases (opt_some e).1
end
end FL
/-! f-strings, raise, try .. except .. as e. -/
namespace FL
open PySem L2
section
variable {P : Pm} {X : Cx} {fx : Nat → Addr} {W : WX}
/-! ### f-strings -/
def mFmt (fa : Mx Vl) : Mx Vl := bnd fa fun x => opt (match x with
  | .dat (.str y) => if y.length ≤ 100000 then some (.dat (.str y)) else none
  | .dat (.int i) => if i.natAbs.log2 < 1920 then some (.dat (.str (toString i))) else none
  | _ => none)
theorem fe_fmt {e : Expr} {fa : Mx Vl} {pos : Pos} (he : FE X P e fa) : FE X P (.FormattedValue e (-1) none pos) (mFmt fa) := by
  refine PE.imp (pe_fmt he) ?_
  rintro σ H Q ⟨M, r, ss, rw, z, rw', I, e, q⟩
  obtain ⟨y, rw1, e1, e⟩ := bnd_some e
  obtain ⟨e2, rfl⟩ := opt_some e
  refine ⟨M, r, ss, rw, y, _, I, e1, fun v H1 k1 I1 hv => ?_⟩
  split at e2
  next y =>
    split at e2
    next hl =>
      cases e2
      exact .inl ⟨y, vr_str hv, sz_of hl, q _ H1 k1 I1 (DR.str y)⟩
    next => cases e2
  next i =>
    split at e2
    next hl =>
      cases e2
      exact .inr ⟨i, vr_int hv, hl, q _ H1 k1 I1 (DR.str _)⟩
    next => cases e2
  next => cases e2
inductive FJ (X : Cx) (P : Pm) : List Expr → List (Mx Vl) → Prop where
  | nil : FJ X P [] []
  | cons {e : Expr} {m : Mx Vl} {es : List Expr} {ms : List (Mx Vl)} (h : FE X P e m) (r : FJ X P es ms) : FJ X P (e :: es) (m :: ms)
theorem FJ.pj {es : List Expr} {ms : List (Mx Vl)} (h : FJ X P es ms) : PJ X es (ms.map (tE P)) := by
  induction h with
  | nil => exact .nil
  | cons h _ ih => exact .cons h ih
def mJs : List (Mx Vl) → Str → Mx Vl
  | [], acc => pur (.dat (.str acc))
  | m :: ms, acc => bnd m fun x => match x with
    | .dat (.str y) => if (acc ++ y).length ≤ 100000 then mJs ms (acc ++ y) else opt none
    | _ => opt none
theorem tJs_of {ms : List (Mx Vl)} : ∀ (acc : Str) (σ : St) (H : Hp) (Q : VK), tE P (mJs ms acc) σ H Q → tJs (ms.map (tE P)) acc σ H fun out H1 => Q (.str out) H1 := by
  induction ms with
  | nil =>
    rintro acc σ H Q ⟨M, r, ss, rw, z, rw', I, e, q⟩
    obtain ⟨rfl, rfl⟩ := pur_some e
    exact q _ H (KeepR.refl _ _) I (DR.str acc)
  | cons m ms ih =>
    rintro acc σ H Q ⟨M, r, ss, rw, z, rw', I, e, q⟩
    obtain ⟨y, rw1, e1, e⟩ := bnd_some e
    refine ⟨M, r, ss, rw, y, rw1, I, e1, fun v H1 k1 I1 hv => ?_⟩
    split at e
    next y =>
      split at e
      next hl => exact ⟨y, vr_str hv, sz_of hl, ih _ σ H1 Q ⟨M, r, ss, rw1, z, rw', I1, e, fun v2 H2 k2 I2 h2 => q v2 H2 (k1.trans k2) I2 h2⟩⟩
      next => cases (opt_some e).1
    next => cases (opt_some e).1
theorem fe_joined {v1 v2 : Expr} {rest : List Expr} {ms : List (Mx Vl)} {pos : Pos} (h : FJ X P (v1 :: v2 :: rest) ms) : FE X P (.JoinedStr (v1 :: v2 :: rest) pos) (mJs ms Str.empty) :=
  PE.imp (pe_joined h.pj) fun σ H Q q => tJs_of Str.empty σ H Q q

/-! ### raise -/
/-- a class of exceptions without own __init__: what its making asks -/
structure Xo (K : PySem.W.Frag) (mg : Str → Option Value) (x : Str) (C : Addr) : Prop where
  F : ∃ B newId initId bmB, ExcBaseFacts B newId initId bmB ∧ PySem.W.excIn K C bmB newId = true
  g : mg x = some (.ref C)
  kp : PySem.W.keepIn K (.ref C) = true
  h1 : PySem.W.subIn K (.ref C) (.type "BaseException") = some true
  h2 : PySem.W.typeIn K (.ref C) = some (.type "type")
def sRaise (c : Nat) (m : Mx Vl) : Sx := fun ss rw => match m ss rw with
  | some (_, rw1) => some (.er ⟨c, []⟩ ss rw1)
  | none => none
theorem fs_raise {c : Nat} {x : Str} {e : Expr} {m : Mx Vl} {p pos pos' : Pos} (T : Xo X.K X.mg x (fx c)) (tk : Takes X W) (he : FE X P e m) (hc : X.calm = true := by rfl) (hg : Gl X x := by rfl)
    (hs : starEach [e] X.env = (false, eval e X.env) :: starEach [] X.env := by rfl) (hdb : (x == ("__debug__" : Str)) = false := by decide) :
    FS X P fx W (.Raise (some (.Call (.Name x p) [e] [] pos')) none pos) (sRaise c m) := by
  obtain ⟨B, nI, iI, bmB, F, q⟩ := T.F
  refine PS.imp (ps_raise hc tk (SkE.pmk_own1 F q T.g T.kp (raises_own T.h1 T.h2) hg he hs hdb)) ?_
  rintro D σ H ⟨M, r, ss, rw, o, I, e, q⟩
  unfold sRaise at e
  split at e
  next y rw1 e1 =>
    cases e
    exact ⟨M, r, ss, rw, y, rw1, I, e1, fun v H1 k1 I1 hv => q σ _ none H1 (Gr.ofR k1 I1) I1 ⟨rfl, .inl ⟨rfl, rfl⟩⟩⟩
  next => cases e

/-! ### try -/
variable {M : Addr → Prop} {r : Option Addr} {σ : St} {H : Hp} {ss : List Sl} {rw : Ro}
theorem own_setno {i : Nat} {v : Option V} (hi : ss[i]? = some .no) : ∀ a, Own (σ.set i v) ss a ↔ Own σ ss a := fun a => by
  constructor
  · rintro ⟨j, ds, h1, h2⟩
    have nj : i ≠ j := fun z => by subst z; rw [hi] at h1; cases h1
    rw [List.getElem?_set_ne nj] at h2
    exact ⟨j, ds, h1, h2⟩
  · rintro ⟨j, ds, h1, h2⟩
    have nj : i ≠ j := fun z => by subst z; rw [hi] at h1; cases h1
    exact ⟨j, ds, h1, by rw [List.getElem?_set_ne nj]; exact h2⟩
theorem ER.setno (I : ER P M r σ H ss rw) {i : Nat} (v : Option V) (hi : ss[i]? = some .no) : ER P M r (σ.set i v) H ss rw := by
  have ne : ∀ {j : Nat} {s : Sl}, ss[j]? = some s → s ≠ .no → i ≠ j := fun h1 h2 z => by
    subst z
    rw [hi] at h1
    cases h1
    exact h2 rfl
  have sub : Same (hdn (Msk M r σ ss) H) (hdn (Msk M r (σ.set i v) ss) H) := mk_sub fun a z => by
    rcases z with z | z | z
    · exact .inl z
    · exact .inr (.inl z)
    · exact .inr (.inr ((own_setno hi a).mp z))
  refine ⟨by rw [List.length_set]; exact I.len, fun j y h => ?_, fun j ds h => ?_, fun j h => ?_, fun a h => ?_, I.m0, fun j k a ds es h1 h2 h3 h4 => ?_⟩
  · obtain ⟨u, h1, h2⟩ := I.sl j y h
    exact ⟨u, by rw [List.getElem?_set_ne (ne h (by simp))]; exact h1, VR.mono sub h2⟩
  · obtain ⟨a, us, h1, h2, h3, h4⟩ := I.ow j ds h
    exact ⟨a, us, by rw [List.getElem?_set_ne (ne h (by simp))]; exact h1, h2, drAll_mono sub _ _ h3, h4⟩
  · obtain ⟨a, h1, h2⟩ := I.rs j h
    exact ⟨a, h1, by rw [List.getElem?_set_ne (ne h (by simp))]; exact h2⟩
  · obtain ⟨h1, sa, h2, h3⟩ := I.rk a h
    exact ⟨h1, sa, h2, sub.seq h3⟩
  · rw [List.getElem?_set_ne (ne h1 (by simp))] at h3
    rw [List.getElem?_set_ne (ne h2 (by simp))] at h4
    exact I.inj j k a ds es h1 h2 h3 h4
def noAt (ss : List Sl) (i : Nat) : Bool := match ss[i]? with
  | some .no => true
  | _ => false
theorem noAt_eq {ss : List Sl} {i : Nat} (h : noAt ss i = true) : ss[i]? = some .no := by
  unfold noAt at h
  split at h
  next e => exact e
  next => cases h
/-- try: body, except T as e: a suite that returns what sx tells of the exception -/
def sTry (i : Nat) (mb : Sx) (sx : Exn → Option Vl) : Sx := fun ss rw => match mb ss rw with
  | some (.er ex ss1 rw1) => if noAt ss1 i = true then (match sx ex with
    | some x => some (.rt x rw1)
    | none => none) else none
  | o => o
/-- what the suite is handed: e in slot i -/
def tSuite (P : Pm) (fx : Nat → Addr) (i : Nat) (sx : Exn → Option Vl) (a : Addr) (cls : Value) (d : Option Addr) : TS := fun D σ H => ∃ M r ss rw ex x, ER P M r σ H ss rw ∧ ss[i]? = some .no ∧ σ[i]? = some (some (.ref a)) ∧ ExR P fx ex cls d H ∧ sx ex = some x ∧
  ∀ v H', KeepR r H H' → ER P M r σ H' ss rw → VR P (hdn (fun b => M b ∨ r = some b) H') v x → D.rt v H'
abbrev WF : WX := fun _ _ _ _ => False
theorem takesF {X : Cx} : Takes X WF := fun u s' ⟨_, _, _, _, _, _, _, _, _, _, _, _, _, _, _, _, w⟩ => w.elim
theorem fs_try {i : Nat} {x n : Str} {c : Value} {body suite : List Stmt} {b₀ : Stmt} {np pos pos' : Pos} {mb : Sx} {sx : Exn → Option Vl} (hs : X.stack = X.env :: X.outer) (hf : X.env.frame = some X.env.locals) (hN : X.N.Nodup) (hi : X.N[i]? = some n) (hln : X.env.kindOf n = some .local) (hc : Names X x c)
    (hm : ∀ ex y, sx ex = some y → PySem.W.exmOne X.K (.ref (fx ex.c)) c = some true)
    (hb : ∀ (W : WX) (pn : List (Addr × Obj)) (xe : Value → Shared → Prop), Takes (X.tr pn xe) W → PassesOwn (model X.prog X.w) X.A X.env xe → FSs (X.tr pn xe) P fx W body mb)
    (hsu : ∀ (a : Addr) (oe : Obj) (cls : Value) (d : Option Addr) (pn : List (Addr × Obj)), Zc cls d oe → (∃ vs, oe.data = .fields vs) → PSs (X.suite a ((a, oe) :: pn)) (b₀ :: suite) (tSuite P fx i sx a cls d)) :
    FS X P fx W (.Try body [.ExceptHandler (some (.Name x np)) (some n) (b₀ :: suite) pos'] [] [] pos) (sTry i mb sx) := by
  refine PS.imp (ps_try_as hs hf hN hi hln hc takesF hb hsu) ?_
  rintro D σ H ⟨M, r, ss, rw, o, I, e, q⟩
  unfold sTry at e
  split at e
  next ex ss1 rw1 e1 =>
    split at e
    next hno =>
      split at e
      next x ex1 =>
        cases e
        have hn : ss1[i]? = some .no := noAt_eq hno
        refine ⟨M, r, ss, rw, _, I, e1, fun σ' cls d H' g' I' hx => ?_⟩
        refine ⟨true, by rw [hx.1]; exact hm ex x ex1, fun _ a ha => ?_, fun z => by cases z⟩
        have hl : i < σ'.length := by
          rw [I'.len]
          exact (List.getElem?_eq_some_iff.mp hn).1
        refine ⟨M, r, ss1, rw1, ex, x, I'.setno _ hn, hn, List.getElem?_set_self hl, hx, ex1, fun v H2 k2 I2 hv => ?_⟩
        have g2 : Gr r σ' H' ss1 (σ'.set i (some (.ref a))) H2 ss1 := by
          have g := Gr.ofR (ss := ss1) k2 I2
          exact ⟨fun b o h1 h2 h3 => k2 b o h1 h2, fun b z => .inl ((own_setno hn b).mp z), g.live⟩
        exact q v H2 (g'.trans g2).keep (g'.trans g2).live I2.rowAt hv
      next => cases e
    next => cases e
  next hne =>
    refine ⟨M, r, ss, rw, o, I, e, ?_⟩
    cases o with
    | nx ss1 rw1 => exact q
    | bk ss1 rw1 => exact q
    | ct ss1 rw1 => exact q
    | rt x rw1 => exact q
    | rl ds rw1 => exact q
    | er x ss1 rw1 => exact absurd e (hne x ss1 rw1)
end

/-! ### isinstance of the caught one -/
section
variable {X : Cx} {a D : Addr} {oe : Obj} {pn : List (Addr × Obj)} {i : Nat} {x n : Str} {G : St → Prop}
/-- an expression that is the bool b, where the frame is so -/
def tB0 (G : St → Prop) (b : Bool) : TE := fun σ H Q => G σ ∧ Q (.bl b) H
theorem pb_or {ea eb : Expr} {rest : List Expr} {pos : Pos} {b1 b2 : Bool} (h1 : PE X ea (tB0 G b1)) (h2 : PE X (.BoolOp .Or (eb :: rest) pos) (tB0 G b2)) : PE X (.BoolOp .Or (ea :: eb :: rest) pos) (tB0 G (b1 || b2)) := by
  refine PE.imp (pe_or h1 h2) ?_
  rintro σ H Q ⟨g, q⟩
  refine ⟨g, b1, rfl, ?_⟩
  cases b1
  · exact L2.iteF ⟨g, q⟩
  · exact L2.iteT q
theorem pb_and {ea eb : Expr} {rest : List Expr} {pos : Pos} {b1 b2 : Bool} (h1 : PE X ea (tB0 G b1)) (h2 : PE X (.BoolOp .And (eb :: rest) pos) (tB0 G b2)) : PE X (.BoolOp .And (ea :: eb :: rest) pos) (tB0 G (b1 && b2)) := by
  refine PE.imp (pe_and h1 h2) ?_
  rintro σ H Q ⟨g, q⟩
  refine ⟨g, b1, rfl, ?_⟩
  cases b1
  · exact L2.iteF q
  · exact L2.iteT ⟨g, q⟩
theorem pb_one {ea : Expr} {op : BoolOp} {pos : Pos} {t : TE} (h : PE X ea t) : PE X (.BoolOp op [ea] pos) t := pe_one h
theorem pb_not {ea : Expr} {pos : Pos} {b1 : Bool} (h1 : PE X ea (tB0 G b1)) : PE X (.UnaryOp .Not ea pos) (tB0 G (!b1)) := by
  refine PE.imp (pe_not h1) ?_
  rintro σ H Q ⟨g, q⟩
  exact ⟨g, b1, rfl, q⟩
theorem pb_var {j : Nat} {y : Str} {p : Pos} {b : Bool} (hv : PE X (.Name y p) (tVar j)) (hG : ∀ σ, G σ → σ[j]? = some (some (.bl b))) : PE X (.Name y p) (tB0 G b) := by
  refine PE.imp hv ?_
  rintro σ H Q ⟨g, q⟩
  exact ⟨_, hG σ g, q⟩
/-- isinstance(e, a class of the program) -/
theorem pb_isC {C2 : Addr} {x2 : Str} {b : Bool} {p p1 p2 pos : Pos} (T : ExcC X.K D) (hz : Zc (.ref D) none oe) (hf : ∃ vs, oe.data = .fields vs) (hv : PE (X.suite a ((a, oe) :: pn)) (.Name x p1) (tVar i)) (hG : ∀ σ, G σ → σ[i]? = some (some (.ref a)))
    (hm : X.mg "isinstance" = none) (g2 : X.mg x2 = some (.ref C2)) (k : PySem.W.kitOne X.K (.ref D) (.ref C2) = some b) (hg : Gl X "isinstance" := by rfl) (hg2 : Gl X x2 := by rfl) (hd2 : (x2 == ("__debug__" : Str)) = false := by decide)
    (h1 : starEach [.Name x p1, .Name x2 p2] X.env = (false, eval (.Name x p1) X.env) :: starEach [.Name x2 p2] X.env := by rfl) (h2 : starEach [.Name x2 p2] X.env = (false, eval (.Name x2 p2) X.env) :: starEach [] X.env := by rfl)
    (hpl : (backTo pos (starEach [.Name x2 p2] X.env)).any (·.1) = false := by rfl) : PE (X.suite a ((a, oe) :: pn)) (.Call (.Name "isinstance" p) [.Name x p1, .Name x2 p2] [] pos) (tB0 G b) := by
  refine PE.imp (pe_callB (call_isE T hz hf) hg hm (by decide +kernel) (pa_cons hv (pa_cons (pe_glob (v := .ref C2) hg2 g2 rfl hd2) pa_nil h2) h1) (by decide) (by decide) h1 hpl) ?_
  rintro σ H Q ⟨g, q⟩
  exact ⟨_, hG σ g, .ref C2, .ref C2, b, rfl, fun u hu => hu, k, q⟩
/-- isinstance(e, a built-in one) -/
theorem pb_isT {T2 : String} {x2 : Str} {b : Bool} {p p1 p2 pos : Pos} (T : ExcC X.K D) (hz : Zc (.ref D) none oe) (hf : ∃ vs, oe.data = .fields vs) (hv : PE (X.suite a ((a, oe) :: pn)) (.Name x p1) (tVar i)) (hG : ∀ σ, G σ → σ[i]? = some (some (.ref a)))
    (hm : X.mg "isinstance" = none) (hm2 : X.mg x2 = none) (hv2 : bootBuiltins x2 = some (.type T2)) (k : PySem.W.kitOne X.K (.ref D) (.type T2) = some b) (hg : Gl X "isinstance" := by rfl) (hg2 : Gl X x2 := by rfl) (hn2 : x2 ≠ "__name__" := by decide) (hd2 : (x2 == ("__debug__" : Str)) = false := by decide)
    (h1 : starEach [.Name x p1, .Name x2 p2] X.env = (false, eval (.Name x p1) X.env) :: starEach [.Name x2 p2] X.env := by rfl) (h2 : starEach [.Name x2 p2] X.env = (false, eval (.Name x2 p2) X.env) :: starEach [] X.env := by rfl)
    (hpl : (backTo pos (starEach [.Name x2 p2] X.env)).any (·.1) = false := by rfl) : PE (X.suite a ((a, oe) :: pn)) (.Call (.Name "isinstance" p) [.Name x p1, .Name x2 p2] [] pos) (tB0 G b) := by
  refine PE.imp (pe_callB (call_isE T hz hf) hg hm (by decide +kernel) (pa_cons hv (pa_cons (pe_bltn (v := .ty T2) hg2 hm2 hv2 rfl hn2 hd2) pa_nil h2) h1) (by decide) (by decide) h1 hpl) ?_
  rintro σ H Q ⟨g, q⟩
  exact ⟨_, hG σ g, .ty T2, .type T2, b, rfl, fun u hu => hu, k, q⟩
end
end FL
/-! A test that looks at an own list as a whole; the law's own def. -/
namespace FL
open PySem L2
section
variable {P : Pm} {X : Cx} {fx : Nat → Addr} {W : WX} {M : Addr → Prop} {r : Option Addr} {σ : St} {H : Hp} {ss : List Sl} {rw : Ro}
/-- the row's slots forgotten -/
def noRow (ss : List Sl) : List Sl := ss.map fun s => match s with
  | .row => .no
  | s => s
theorem noRow_at {i : Nat} {s : Sl} (h : (noRow ss)[i]? = some s) (hs : s ≠ .no) : ss[i]? = some s := by
  unfold noRow at h
  rw [List.getElem?_map] at h
  cases e : ss[i]? with
  | none => rw [e] at h; cases h
  | some t =>
    rw [e] at h
    cases t with
    | row => cases h; exact absurd rfl hs
    | no => cases h; exact absurd rfl hs
    | vl x => cases h; rfl
    | own ds => cases h; rfl
theorem noRow_own {i : Nat} {ds : List PyData} (h : ss[i]? = some (.own ds)) : (noRow ss)[i]? = some (.own ds) := by
  unfold noRow
  rw [List.getElem?_map, h]
  rfl
theorem ER.noRow (I : ER P M r σ H ss rw) (rw' : Ro) : ER P (fun a => M a ∨ r = some a) none σ H (noRow ss) rw' := by
  have own1 : ∀ a, Own σ (FL.noRow ss) a → Own σ ss a := fun a ⟨j, ds, h1, h2⟩ => ⟨j, ds, noRow_at h1 (by simp), h2⟩
  have sub : Same (hdn (Msk M r σ ss) H) (hdn (Msk (fun a => M a ∨ r = some a) none σ (FL.noRow ss)) H) := mk_sub fun a z => by
    rcases z with (z | z) | z | z
    · exact .inl z
    · exact .inr (.inl z)
    · cases z
    · exact .inr (.inr (own1 a z))
  refine ⟨by unfold FL.noRow; rw [List.length_map]; exact I.len, fun j y h => ?_, fun j ds h => ?_, fun j h => ?_, fun a h => (nomatch h), fun a z => ?_, fun j k a ds es h1 h2 => I.inj j k a ds es (noRow_at h1 (by simp)) (noRow_at h2 (by simp))⟩
  · obtain ⟨u, h1, h2⟩ := I.sl j y (noRow_at h (by simp))
    exact ⟨u, h1, VR.mono sub h2⟩
  · obtain ⟨a, us, h1, h2, h3, h4, h5⟩ := I.ow j ds (noRow_at h (by simp))
    exact ⟨a, us, h1, h2, drAll_mono sub _ _ h3, fun z => z.elim h4 h5, by simp⟩
  · unfold FL.noRow at h
    rw [List.getElem?_map] at h
    cases e : ss[j]? with
    | none => rw [e] at h; cases h
    | some t =>
      rw [e] at h
      cases t <;> cases h
  · rcases z with z | z
    · exact I.m0 a z
    · obtain ⟨_, sa, e, _⟩ := I.rk a z
      rw [e]
      simp
/-- a test that looks at the own list in slot i as at data; it leaves all as it was -/
def mBor (i : Nat) (m : Mx Bool) : Mx Bool := fun ss rw => match m (noRow (frz i ss)) (0, 0) with
  | some (b, _) => some (b, rw)
  | none => none
theorem ft_bor (i : Nat) {e : Expr} {m : Mx Bool} (h : FT X P e m) : FT X P e (mBor i m) := by
  refine PT.imp h ?_
  rintro σ H Q ⟨M, r, ss, rw, b, rw', I, e, q⟩
  unfold mBor at e
  split at e
  next b' rw1 e1 =>
    cases e
    exact ⟨_, none, _, (0, 0), b, rw1, (I.frz i).1.noRow (0, 0), e1, fun H1 k1 _ => q H1 (KeepR.of fun b o e => k1 b o e (by simp)) (I.grow fun b o e => k1 b o e (by simp))⟩
  next => cases e

/-! ### the law -/
def ssT (n : Nat) : List Sl := .no :: .row :: List.replicate (n - 2) .no
def bodyT (n : Nat) (m : Sx) : Option Vl := match m (ssT n) (0, 0) with
  | some (.rt x _) => some x
  | _ => none
/-- the script's numbers: the law tells True -/
def spT (K : PySem.W.Frag) (F : List Int → Option Vl) : Sp := fun vs H Q _ => ∃ sa ns, vs = [.ref sa] ∧ SqL K H sa (ns.map V.int) ∧ F ns = some (.dat (.bool true)) ∧ ∀ H', Q (.bl true) H'
def t0 : TS := tAsg (tLst (tCons (tVar 0) (tCons (tC (.int 0)) (tCons (tC (.int 0)) tNil)))) (gName 1)
variable {Pg : Program} {w : World} {K : PySem.W.Frag} {mg : Str → Option Value} {base : Heap} {C : Addr} {qual x y : Str} {st : Stmt} {f : Addr} {fd : FuncData} {N : List Str} {k : Nat} {m : List Int → Sx}
theorem er_T {ns : List Int} {sa p : Addr} {n : Nat} (hp : H p = none) (hs : SqL K H sa (ns.map V.int)) :
    ER (pm K ns C) (fun _ => False) (some p) ((some (V.ref sa)) :: (some (V.ref p)) :: List.replicate n none) (upd H p (.lst [.ref sa, .int 0, .int 0])) (.no :: .row :: List.replicate n .no) (0, 0) := by
  have at_ : ∀ {i : Nat} {s : Sl}, ((.no :: .row :: List.replicate n .no : List Sl))[i]? = some s → (i = 1 ∧ s = .row) ∨ s = .no := fun {i s} e => by
    match i, e with
    | 0, e => cases e; exact .inr rfl
    | 1, e => cases e; exact .inl ⟨rfl, rfl⟩
    | i + 2, e =>
      rw [List.getElem?_cons_succ, List.getElem?_cons_succ] at e
      have := List.mem_of_getElem? e
      rw [List.mem_replicate] at this
      exact .inr this.2
  have no_own : ∀ (σ : St) a, ¬ Own σ (.no :: .row :: List.replicate n .no) a := fun σ a ⟨i, ds, e, _⟩ => by
    rcases at_ e with ⟨_, z⟩ | z <;> cases z
  refine ⟨by simp, fun i y e => ?_, fun i ds e => ?_, fun i e => ?_, fun a e => ?_, fun a z => z.elim, fun i j a ds es e => ?_⟩
  · rcases at_ e with ⟨_, z⟩ | z <;> cases z
  · rcases at_ e with ⟨_, z⟩ | z <;> cases z
  · rcases at_ e with ⟨z, _⟩ | z
    · subst z
      exact ⟨p, rfl, rfl⟩
    · cases z
  · cases e
    refine ⟨fun z => z, sa, upd_same, ?_⟩
    have s1 : Same H (hdn (Msk (fun _ => False) (some p) ((some (V.ref sa)) :: (some (V.ref p)) :: List.replicate n none) (.no :: .row :: List.replicate n .no)) (upd H p (.lst [.ref sa, .int 0, .int 0]))) := fun b o e => by
      have nb : b ≠ p := ne_of_none e hp
      refine mk_some.mpr ⟨fun z => ?_, by rw [upd_ne nb]; exact e⟩
      rcases z with z | z | z
      · exact z
      · exact nb (Option.some.inj z).symm
      · exact no_own _ _ z
    exact s1.seq hs
  · rcases at_ e with ⟨_, z⟩ | z <;> cases z
theorem fn_T (F : Fun K x qual st f fd) (S : FnScope N [y] (defScope st)) (hk : 2 ≤ N.length)
    (hb : ∀ (ns : List Int) (cdv : Value) (A : Around) (outer : List Env) (s : Shared) (H : Hp) (E : XK), Room k (A.deeper (PyProof.Rows.envOfC qual (defScope st) s.heap.objs.size f cdv)) →
      PSs (cxOf CX0 Pg w K mg base N qual (defScope st) f cdv A outer s H E).nox (defBody st) (tSeq t0 (tS (pm K ns C) fx W0 (m ns)))) :
    FnOk Pg w K mg base CX0 (k + 1) f fd [y] (spT K fun ns => bodyT N.length (m ns)) := by
  refine F.ok S (fun vs H Q E h => ?_) (fun cdv A outer s H vs Q E hr h => ?_)
  · obtain ⟨sa, ns, rfl, _⟩ := h
    rfl
  · obtain ⟨sa, ns, rfl, hs, hF, q⟩ := h
    refine ⟨_, hb ns cdv A outer s H E hr, ?_⟩
    have e0 : L2.start N [V.ref sa] = some (V.ref sa) :: none :: List.replicate (N.length - 2) none := by
      unfold L2.start
      have e2 : N.length - [V.ref sa].length = (N.length - 2) + 1 := by simp; omega
      rw [e2]
      rfl
    rw [e0]
    refine ⟨_, rfl, show (3 : Nat) ≤ sizeLine by decide, fun p hp => ?_⟩
    have I := er_T (C := C) (n := N.length - 2) hp hs
    replace hF : bodyT N.length (m ns) = some (.dat (.bool true)) := hF
    unfold bodyT at hF
    split at hF
    next x rw' e =>
      cases hF
      refine ⟨_, some p, _, (0, 0), _, I, e, fun v H' _ _ _ hv => ?_⟩
      have := vr_bool hv
      subst this
      exact q H'
    next => cases hF
end
end FL
namespace FL
open PySem L2
/-- a promise that is never asked -/
theorem dn_none {Pg : Program} {w : World} {K : PySem.W.Frag} {mg : Str → Option Value} {base : Heap} {P : Pm} {x : Str} {st : Stmt} {ps : List Str} {k : Nat} (h : Hr K mg x st) (B : Bnd ps x st) : Dn Pg w K mg base CX0 k x ps (spP P fun _ => none) := by
  obtain ⟨f, fd, F, h1⟩ := h
  have no : ∀ vs H Q E, ¬ spP P (fun _ => none) vs H Q E := fun vs H Q E h => by
    obtain ⟨S, xs, y, _, _, z, _⟩ := h
    cases z
  exact ⟨f, fd, ⟨fun vs H Q E h => (no _ _ _ _ h).elim, fun A outer s H args us vs Q E _ _ _ _ h => (no _ _ _ _ h).elim⟩, h1, F.kp, F.binds B⟩
end FL
namespace FL
open PySem L2
/-! ### what the top has left: facts as they are wanted -/
inductive EnL (P : Params) : List DictEntry → List (Str × Int) → Prop
  | nil : EnL P [] []
  | cons {x : Str} {v : Int} {t t' : Tok} {r : List DictEntry} {k : List (Str × Int)} (h : EnL P r k) : EnL P ({ hash := PyData.keyHash P x, key := .str x t, val := .int v t' } :: r) ((x, v) :: k)
theorem EnL.lit {P : Params} {es : List DictEntry} {kvs : List (Str × Int)} (h : EnL P es kvs) : PySem.W.KeysLit P es := by
  induction h with
  | nil => exact True.intro
  | cons h ih => exact ⟨⟨_, _, rfl, rfl⟩, ih⟩
theorem EnL.find {P : Params} {es : List DictEntry} {kvs : List (Str × Int)} (h : EnL P es kvs) (z : Str) : (kvs.lookup z = none → es.find? (·.key.isStr z) = none) ∧ ∀ v, kvs.lookup z = some v → ∃ e t, es.find? (·.key.isStr z) = some e ∧ e.val = .int v t := by
  induction h with
  | nil => exact ⟨fun _ => rfl, fun v e => nomatch e⟩
  | @cons x v t t' r k h ih =>
    have key : (Value.str x t).isStr z = (z == x) := by
      show (x == z) = (z == x)
      exact Bool.beq_comm
    rw [List.find?_cons, List.lookup_cons]
    have key' : ({ hash := PyData.keyHash P x, key := .str x t, val := .int v t' } : DictEntry).key.isStr z = (z == x) := key
    rw [key']
    cases z == x with
    | true =>
      refine ⟨fun e => ?_, fun v' e => ⟨_, t', rfl, ?_⟩⟩
      · cases e
      · cases e
        rfl
    | false => exact ih
theorem EnL.noRef {P : Params} {es : List DictEntry} {kvs : List (Str × Int)} (h : EnL P es kvs) : es.any (·.refKey) = false := by
  induction h with
  | nil => rfl
  | cons h ih =>
    rw [List.any_cons, ih]
    rfl
theorem gd_mk {K : PySem.W.Frag} {w : World} {mg : Str → Option Value} {x : Str} {kvs : List (Str × Int)} {a : Addr} {n : Nat} {es : Array DictEntry} (hm : mg x = some (.ref a)) (hl : K.lookup a = some ⟨.type "dict", none, .dict es n, #[]⟩) (h : EnL w.params es.toList kvs) (hs : (a == sysModules) = false) : Gd K w mg x kvs := by
  refine ⟨a, es, n, hm, ⟨hl, h.lit, hs⟩, fun z => ⟨fun e => ?_, fun v e => ?_⟩⟩
  · unfold PySem.W.nsIn
    rw [hl]
    show (match es.toList.find? (·.key.isStr z) with | some e => some (some e.val) | none => if es.toList.any (·.refKey) then none else some none) = _
    rw [(h.find z).1 e, h.noRef]
    rfl
  · obtain ⟨en, t, h1, h2⟩ := (h.find z).2 v e
    refine ⟨t, ?_⟩
    unfold PySem.W.nsIn
    rw [hl]
    show (match es.toList.find? (·.key.isStr z) with | some e => some (some e.val) | none => if es.toList.any (·.refKey) then none else some none) = _
    rw [h1]
    show some (some en.val) = _
    rw [h2]
theorem dr_ktup {K : PySem.W.Frag} {H : Hp} {a : Addr} {od : Option Addr} {es : Array Value} {n : Nat} {sl : Array (Option Value)} {vs : List V} {ds : List PyData} (hl : K.lookup a = some ⟨.type "tuple", od, .seq es n, sl⟩) (hv : Vals vs es.toList) (hz : es.size ≤ sizeLine) (hd : DRAll K H vs ds) : DR K H (.ref a) (.tuple ds) :=
  DR.tup (.inr ⟨_, es, n, hl, rfl, rfl, hz, hv⟩) hd
theorem kit_self {K : PySem.W.Frag} {C : Addr} : PySem.W.kitOne K (.ref C) (.ref C) = some true := by
  unfold PySem.W.kitOne
  rw [if_pos (beq_self_eq_true _)]
theorem kit_ref {K : PySem.W.Frag} {C D : Addr} {b : Bool} (hn : ((Value.ref C : Value) == .ref D) = false) (h1 : (PySem.W.clsIn K D).isSome = true) (h2 : PySem.W.typeIn K (.ref D) = some (.type "type")) (h3 : PySem.W.subIn K (.ref C) (.ref D) = some b) : PySem.W.kitOne K (.ref C) (.ref D) = some b := by
  unfold PySem.W.kitOne
  rw [hn, if_neg Bool.false_ne_true]
  show (if ((PySem.W.clsIn K D).isSome && PySem.W.typeIn K (.ref D) == some (.type "type")) = true then PySem.W.subIn K (.ref C) (.ref D) else none) = some b
  rw [h1, h2, if_pos (by rfl), h3]
theorem kit_typ {K : PySem.W.Frag} {C : Addr} {T : String} {b : Bool} (h3 : PySem.W.subIn K (.ref C) (.type T) = some b) (hm : PySem.W.kitMeta T = true) : PySem.W.kitOne K (.ref C) (.type T) = some b := by
  unfold PySem.W.kitOne
  rw [if_neg (by intro z; cases z)]
  show (if PySem.W.kitMeta T = true then PySem.W.subIn K (.ref C) (.type T) else none) = some b
  rw [if_pos hm, h3]
end FL
/-! sorted(set(list of pairs)): a new list, rising, each once. -/
namespace L2
open PySem PySem.Spec PyProof.Rows
section
def twoOf (l : List Int) : Int × Int := (l.getD 0 0, l.getD 1 0)
theorem lk_mem : ∀ {L : List (Addr × List Int)} {a : Addr} {k : List Int}, L.lookup a = some k → (a, k) ∈ L
  | [], _, _, h => by cases h
  | (b, j) :: L, a, k, h => by
    rw [List.lookup_cons] at h
    by_cases e : (a == b) = true
    · rw [e] at h
      have e' : a = b := by simpa using e
      cases h
      rw [e']
      exact List.mem_cons_self
    · have e2 : (a == b) = false := by simpa using e
      rw [e2] at h
      exact List.mem_cons_of_mem _ (lk_mem h)
theorem lk_some : ∀ {L : List (Addr × List Int)} {q : Addr × List Int}, q ∈ L → ∃ k, L.lookup q.1 = some k
  | [], _, h => by cases h
  | (b, j) :: L, q, h => by
    rw [List.lookup_cons]
    by_cases e : (q.1 == b) = true
    · rw [e]; exact ⟨j, rfl⟩
    · have e2 : (q.1 == b) = false := by simpa using e
      rw [e2]
      rcases List.mem_cons.mp h with z | z
      · rw [z] at e2; simp at e2
      · exact lk_some z
def keyV (L : List (Addr × List Int)) (v : Value) : Int × Int := match v with
  | .ref a => twoOf ((L.lookup a).getD [])
  | _ => (0, 0)
variable {P : Program} {w : World} {A : Around} {E : Value → Shared → Prop} {s : Shared}
theorem keyV_of {L : List (Addr × List Int)} {h : Heap} (tp : ∀ q ∈ L, IsT P w h q.2 q.1) {q : Addr × List Int} (hq : q ∈ L) : keyV L (.ref q.1) = twoOf q.2 := by
  obtain ⟨k, hk⟩ := lk_some hq
  have t1 := tp _ (lk_mem hk)
  have t2 := tp _ hq
  have e : k = q.2 := IsTupleKey.inj t1 t2
  show twoOf ((L.lookup q.1).getD []) = _
  rw [hk, e]
  rfl
theorem pair_at {h : Heap} {b : Addr} {i j : Int} (x : IsT P w h [i, j] b) : Srt.IsPair h (.ref b) i j := by
  obtain ⟨c, xs, e, ⟨o, ho, hc, n, hd⟩, ia⟩ := tupInts_of x
  cases e
  obtain ⟨ys⟩ := xs
  rcases ia with _ | ⟨ia1⟩
  rename_i ia1
  rcases ia1 with _ | ⟨ia2⟩
  rename_i ia2
  cases ia2
  exact ⟨_, o, _, _, n, rfl, ho, hc, hd⟩
theorem sort_of_set {a : Addr} {L : List (Addr × List Int)} {es : Array (Int × Value)} {ep : Nat} {t : SetTable} {Q : Value → Shared → Prop} (R : SetTR P w s.heap a L es ep t) (hh : A.handled = none) (h2 : ∀ q ∈ L, ∃ i j, q.2 = [i, j])
    (hQ : ∀ (s' : Shared) (p : Addr) (out : List Value) (c : Nat), (∀ b o, s.heap.get? b = some o → s'.heap.get? b = some o) → s'.gens = s.gens → s'.os = s.os → s.heap.objs.size ≤ p → s'.heap.get? p = some (seqObj "list" out.toArray c) →
      out.Perm (L.map fun q => Value.ref q.1) → SrtO.Srtd (fun v u => SrtO.lexB (keyV L v) (keyV L u)) out → Q (.ref p) s') : wpAny (model P w) A (call (.builtin "sorted") [.ref a]) Q E s := by
  have few := R.few
  have sz := R.size
  obtain ⟨o, ho, ex, hd⟩ := R.ob
  apply Calls.call_function_entry kind_sorted plain_sorted entry_sorted (args_sorted1 (.ref a))
  unfold Builtin.«sorted»
  apply wpAny_bind (m := checkCount "sorted" 1 1 _); apply wpAny_pure
  refine wpAny_bind ?_
  refine collect_set (A := A.in1) hh ⟨o, ho, ex.1, hd⟩ R.fits (by unfold scanBound; omega) R.tab.ris R.led ?_
  intro s1 vs k1 hz g1 o1 pm
  have he : es.toList.map (·.2) = L.map fun q => Value.ref q.1 := by
    rw [R.rows]; unfold rowsOf; rw [List.map_map]; rfl
  rw [he] at pm
  have lv : vs.length < 64 := by rw [pm.length_eq, List.length_map]; exact few
  have hl : vs.length ≤ sizeLine := by rw [sizeLine_eq]; omega
  refine wpAny_bind (wpAny_newList ?_ hl)
  have at1 : (s1.heap.push (seqObj "list" vs.toArray 0)).get? s1.heap.objs.size = some (seqObj "list" vs.toArray 0) := Heap.get?_push_size _ rfl
  have up : ∀ b u, s.heap.get? b = some u → (s1.heap.push (seqObj "list" vs.toArray 0)).get? b = some u := fun b u e => Heap.get?_push_of_some _ (k1 b u e)
  have pr : ∀ v ∈ vs, Srt.IsPair (s1.heap.push (seqObj "list" vs.toArray 0)) v (keyV L v).1 (keyV L v).2 := fun v hv => by
    obtain ⟨q, hq, e⟩ := List.mem_map.mp (pm.mem_iff.mp hv)
    obtain ⟨i, j, e2⟩ := h2 q hq
    rw [← e, keyV_of R.tup hq, e2]
    have x := isT_keep (R.tup q hq) up
    rw [e2] at x
    exact pair_at x
  have srt : 2 ≤ vs.length → SrtO.SortableO P w A.in1.in1 { s1 with heap := s1.heap.push (seqObj "list" vs.toArray 0) } s1.heap.objs.size vs fun v u => SrtO.lexB (keyV L v) (keyV L u) := fun l2 =>
    SrtO.pairs_sortableO (by omega) pr fun o e => by
      have e' : some o = some (seqObj "list" vs.toArray 0) := e.symm.trans at1
      cases e'
      intro c
      exact absurd (Value.type.inj c) (by decide)
  have go := SrtO.list_sort_ord (s := { s1 with heap := s1.heap.push (seqObj "list" vs.toArray 0) }) (prog := P) (w := w) (A := A.in1.in1) (E := E) (R := fun f s2 => ∃ v, f = .done (.ret v) ∧ (fun _ s3 => Q (.ref s1.heap.objs.size) s3) v s2) (SrtO.swo_lex (keyV L)) at1 hl srt fun out hs hb => by
    refine ⟨_, rfl, ?_⟩
    obtain ⟨c, hc⟩ := sortedHeap_at (vs := vs) (out := out.toArray) at1
    refine hQ _ _ out c (fun b u e => ?_) g1 o1 hz hc (hb.perm.trans pm) hs
    have lt1 := Heap.lt_size (k1 b u e)
    refine (sortedHeap_old (Nat.ne_of_lt lt1) ?_).trans (up b u e)
    exact Heap.lt_size (up b u e)
  refine wpAny_bind (wpAny_holding ?_)
  refine wpAny_mono (wpAny_call_entry (Q := fun _ s3 => Q (.ref s1.heap.objs.size) s3) slot_list_sort ⟨_, at1, rfl⟩ entry_list_sort go (args_list_sort (.ref s1.heap.objs.size))) ?_ ?_
  · intro v s2 q
    exact wpAny_pure ⟨_, rfl, q⟩
  · intro v s2 q
    exact q
end
end L2
/-! sorted(set(pairs)) over the layer; try .. except without a name. -/
namespace FL
open PySem L2
/-! ### rising lists of pairs -/
def insP (p : Int × Int) : List (Int × Int) → List (Int × Int)
  | [] => [p]
  | q :: l => if p = q then q :: l else if SrtO.lexB p q = true then p :: q :: l else q :: insP p l
def sortP (l : List (Int × Int)) : List (Int × Int) := l.foldr insP []
def UpP (l : List (Int × Int)) : Prop := l.Pairwise fun p q => SrtO.lexB p q = true
theorem mem_insP {x p : Int × Int} : ∀ {l : List (Int × Int)}, x ∈ insP p l ↔ x = p ∨ x ∈ l
  | [] => by simp [insP]
  | q :: l => by
    unfold insP
    split
    next h => subst h; simp
    next h =>
      split
      next h2 => simp
      next h2 =>
        rw [List.mem_cons, mem_insP, List.mem_cons]
        constructor
        · rintro (h | h | h)
          · exact .inr (.inl h)
          · exact .inl h
          · exact .inr (.inr h)
        · rintro (h | h | h)
          · exact .inr (.inl h)
          · exact .inl h
          · exact .inr (.inr h)
theorem lex_trans {p q r : Int × Int} (h1 : SrtO.lexB p q = true) (h2 : SrtO.lexB q r = true) : SrtO.lexB p r = true := by
  have a := SrtO.lexB_iff.mp h1
  have b := SrtO.lexB_iff.mp h2
  exact SrtO.lexB_iff.mpr (by omega)
theorem lex_tri {p q : Int × Int} (h1 : p ≠ q) (h2 : ¬ SrtO.lexB p q = true) : SrtO.lexB q p = true := by
  refine SrtO.lexB_iff.mpr ?_
  have a : ¬ (p.1 < q.1 ∨ (p.1 = q.1 ∧ p.2 < q.2)) := fun z => h2 (SrtO.lexB_iff.mpr z)
  have b : ¬ (p.1 = q.1 ∧ p.2 = q.2) := fun z => h1 (Prod.ext z.1 z.2)
  omega
theorem up_insP {p : Int × Int} : ∀ {l : List (Int × Int)}, UpP l → UpP (insP p l)
  | [], _ => List.pairwise_singleton _ _
  | q :: l, h => by
    obtain ⟨h1, h2⟩ := List.pairwise_cons.mp h
    unfold insP
    split
    next e => exact h
    next e =>
      split
      next e2 => exact List.pairwise_cons.mpr ⟨fun x hx => by
        rcases List.mem_cons.mp hx with z | z
        · rw [z]; exact e2
        · exact lex_trans e2 (h1 x z), h⟩
      next e2 => exact List.pairwise_cons.mpr ⟨fun x hx => by
        rcases mem_insP.mp hx with z | z
        · rw [z]; exact lex_tri e e2
        · exact h1 x z, up_insP h2⟩
theorem up_sortP : ∀ l : List (Int × Int), UpP (sortP l)
  | [] => .nil
  | p :: l => up_insP (up_sortP l)
theorem mem_sortP {x : Int × Int} : ∀ {l : List (Int × Int)}, x ∈ sortP l ↔ x ∈ l
  | [] => by simp [sortP]
  | p :: l => by
    show x ∈ insP p (sortP l) ↔ _
    rw [mem_insP, mem_sortP, List.mem_cons]
theorem lex_irr (p : Int × Int) : ¬ SrtO.lexB p p = true := fun h => by
  have := SrtO.lexB_iff.mp h
  omega
theorem up_one : ∀ {l m : List (Int × Int)}, UpP l → UpP m → (∀ x, x ∈ l ↔ x ∈ m) → l = m
  | [], [], _, _, _ => rfl
  | [], q :: m, _, _, h => absurd ((h q).mpr List.mem_cons_self) (by simp)
  | p :: l, [], _, _, h => absurd ((h p).mp List.mem_cons_self) (by simp)
  | p :: l, q :: m, hl, hm, h => by
    obtain ⟨l1, l2⟩ := List.pairwise_cons.mp hl
    obtain ⟨m1, m2⟩ := List.pairwise_cons.mp hm
    have e : p = q := by
      rcases List.mem_cons.mp ((h p).mp List.mem_cons_self) with z | z
      · exact z
      · rcases List.mem_cons.mp ((h q).mpr List.mem_cons_self) with y | y
        · exact y.symm
        · exact absurd (lex_trans (m1 p z) (l1 q y)) (lex_irr q)
    subst e
    rw [up_one l2 m2 fun x => ?_]
    constructor
    · intro hx
      rcases List.mem_cons.mp ((h x).mp (List.mem_cons_of_mem _ hx)) with z | z
      · subst z; exact absurd (l1 _ hx) (lex_irr _)
      · exact z
    · intro hx
      rcases List.mem_cons.mp ((h x).mpr (List.mem_cons_of_mem _ hx)) with z | z
      · subst z; exact absurd (m1 _ hx) (lex_irr _)
      · exact z
/-! ### data -/
def pairD (p : Int × Int) : PyData := .tuple [.int p.1, .int p.2]
def pair? : PyData → Option (Int × Int)
  | .tuple [.int i, .int j] => some (i, j)
  | _ => none
def pairs? : List PyData → Option (List (Int × Int))
  | [] => some []
  | d :: ds => match pair? d, pairs? ds with
    | some p, some ps => some (p :: ps)
    | _, _ => none
theorem pair?_eq {d : PyData} {p : Int × Int} (h : pair? d = some p) : d = pairD p := by
  unfold pair? at h
  split at h
  next => cases h; rfl
  next => cases h
theorem pairs?_eq : ∀ {ds : List PyData} {ps : List (Int × Int)}, pairs? ds = some ps → ds = ps.map pairD
  | [], _, h => by cases h; rfl
  | d :: ds, _, h => by
    unfold pairs? at h
    split at h
    next p ps e1 e2 =>
      cases h
      rw [pair?_eq e1, pairs?_eq e2]
      rfl
    next => cases h
theorem pairs?_map : ∀ (ps : List (Int × Int)), pairs? (ps.map pairD) = some ps
  | [] => rfl
  | p :: ps => by
    rw [List.map_cons]
    unfold pairs?
    rw [pairs?_map ps]
    rfl
def sortSetD : Vl → Option Vl
  | .dat (.list ds) => match pairs? ds with
    | some ks => if ks.length < 64 then some (.dat (.list ((sortP ks).map pairD))) else none
    | none => none
  | _ => none
theorem dr_pair {K : PySem.W.Frag} {H : Hp} {v : V} {p : Int × Int} (h : DR K H v (pairD p)) : ∃ b, v = .ref b ∧ SqT K H b ([p.1, p.2].map V.int) := by
  unfold pairD at h
  cases h with
  | tup h1 h2 =>
    have e := DRAll.ints_inv (ns := [p.1, p.2]) h2
    rw [e] at h1
    exact ⟨_, rfl, h1⟩
theorem dr_pairs {K : PySem.W.Frag} {H : Hp} : ∀ {ps : List (Int × Int)} {vs : List V}, DRAll K H vs (ps.map pairD) → ∃ ks : List (Addr × List Int), vs = ks.map (fun q => V.ref q.1) ∧ ks.map (·.2) = ps.map (fun p => [p.1, p.2]) ∧ ∀ q ∈ ks, SqT K H q.1 (q.2.map V.int)
  | [], _, h => by cases h; exact ⟨[], rfl, rfl, fun q hq => by cases hq⟩
  | p :: ps, _, h => by
    cases h with
    | cons h1 h2 =>
      obtain ⟨b, rfl, hb⟩ := dr_pair h1
      obtain ⟨ks, rfl, e2, e3⟩ := dr_pairs h2
      refine ⟨(b, [p.1, p.2]) :: ks, rfl, by rw [List.map_cons, e2]; rfl, fun q hq => ?_⟩
      rcases List.mem_cons.mp hq with z | z
      · rw [z]; exact hb
      · exact e3 q z
/-! ### sorted of the set -/
def keyA (L : List (Addr × List Int)) (a : Addr) : Int × Int := twoOf ((L.lookup a).getD [])
def rSortSP (K : PySem.W.Frag) (P : Program) (w : World) : List V → Hp → VK → Prop := fun vs H Q => ∃ (a : Addr) (L : List (Addr × List Int)), vs = [V.ref a] ∧ H a = some (SetTO P w a L) ∧ (∀ q ∈ L, SqT K H q.1 (q.2.map V.int)) ∧ (∀ q ∈ L, ∃ i j, q.2 = [i, j]) ∧
  ∀ (as : List Addr) (p : Addr), as.Perm (L.map (·.1)) → (as.map (keyA L)).Pairwise (fun x y => SrtO.lexB y x = false) → (L.map (·.2)).Nodup → (∀ q ∈ L, keyA L q.1 = twoOf q.2) → H p = none → Q (.ref p) (upd H p (.lst (as.map V.ref)))
def adrOf : Value → Addr
  | .ref a => a
  | _ => 0
theorem refs_eq : ∀ out : List Value, (∀ u ∈ out, ∃ x, u = Value.ref x) → out = (out.map adrOf).map Value.ref
  | [], _ => rfl
  | u :: out, h => by
    obtain ⟨x, rfl⟩ := h u List.mem_cons_self
    rw [List.map_cons, List.map_cons, ← refs_eq out fun v hv => h v (List.mem_cons_of_mem _ hv)]
    rfl
theorem cr_sortSP {X : Cx} (hc : X.calm = true) : CallR X (.builtin "sorted") (rSortSP X.K X.prog X.w) := by
  rintro pins s σ H vs us Q I r ⟨a, L, rfl, ha, hk, h2, q⟩
  have R0 : SetT0 X.prog X.w s.heap a L := (I.hok a _ ha).1
  have tp : ∀ q ∈ L, IsT X.prog X.w s.heap q.2 q.1 := fun q hq => I.isT (hk q hq)
  obtain ⟨es, ep, t, R⟩ := R0.full tp
  rw [Vals.ref1 r]
  refine sort_of_set R (I.ok.hd hc) h2 fun s' p out c k g o hp hg pm srt => ?_
  have all : ∀ u ∈ out, ∃ x, u = Value.ref x := fun u hu => by
    obtain ⟨q, _, e⟩ := List.mem_map.mp (pm.mem_iff.mp hu)
    exact ⟨q.1, e.symm⟩
  have eo := refs_eq out all
  have few : out.length < 64 := by rw [pm.length_eq, List.length_map]; exact R.few
  have hv : ∀ as : List Addr, Vals (as.map V.ref) (as.map Value.ref) := fun as => by
    induction as with
    | nil => exact .nil
    | cons b as ih => exact .cons rfl ih
  have pa : (out.map adrOf).Perm (L.map (·.1)) := by
    have := pm.map adrOf
    rw [List.map_map] at this
    exact this
  have J : Inv X pins σ (upd H p (.lst ((out.map adrOf).map V.ref))) { s with heap := s'.heap, gens := s'.gens, drawn := s'.drawn, toks := s'.toks } := by
    refine I.call (ch := []) (Un.laid k hp (I.hok.fresh hp)) (I.hok.laid k hp ⟨?_, out, c, ?_, hg⟩) (by rw [g]; exact I.bare) (fun _ z => nomatch z)
    · rw [List.length_map, List.length_map, sizeLine_eq]; omega
    · have := hv (out.map adrOf)
      rw [← eo] at this
      exact this
  have e : s' = { s with heap := s'.heap, gens := s'.gens, drawn := s'.drawn, toks := s'.toks } := by
    cases s'; cases s; cases o; rfl
  rw [e]
  refine ⟨.ref p, _, J, rfl, q _ p pa ?_ R.nd (fun q hq => keyV_of (P := X.prog) (w := X.w) tp hq) (I.hok.fresh hp)⟩
  rw [eo] at srt
  have s2 : ((out.map adrOf).map Value.ref).Pairwise fun v u => SrtO.lexB (keyV L u) (keyV L v) = false := srt
  rw [List.pairwise_map] at s2
  exact List.pairwise_map.mpr s2
section
variable {P : Pm} {X : Cx} {e : Expr} {fa : Mx Vl} {p p2 pos pos2 : Pos}
theorem two_inj {q r : List Int} (hq : ∃ i j, q = [i, j]) (hr : ∃ i j, r = [i, j]) (h : twoOf q = twoOf r) : q = r := by
  obtain ⟨i, j, rfl⟩ := hq
  obtain ⟨k, l, rfl⟩ := hr
  have h : (i, j) = (k, l) := h
  cases h
  rfl
theorem drAll_pairs {K : PySem.W.Frag} {H : Hp} {L : List (Addr × List Int)} (key : ∀ q ∈ L, keyA L q.1 = twoOf q.2) (two : ∀ q ∈ L, ∃ i j, q.2 = [i, j]) (tq : ∀ q ∈ L, SqT K H q.1 (q.2.map V.int)) :
    ∀ as : List Addr, (∀ b ∈ as, ∃ q ∈ L, q.1 = b) → DRAll K H (as.map V.ref) (as.map (pairD ∘ keyA L))
  | [], _ => .nil
  | b :: as, mem => by
    refine .cons ?_ (drAll_pairs key two tq as fun c hc => mem c (List.mem_cons_of_mem _ hc))
    obtain ⟨q5, hq5, rfl⟩ := mem b List.mem_cons_self
    obtain ⟨i, j, e8⟩ := two q5 hq5
    have t5 := tq q5 hq5
    have e9 : keyA L q5.1 = (i, j) := by rw [key q5 hq5, e8]; rfl
    show DR K _ _ (pairD (keyA L q5.1))
    rw [e9]
    rw [e8] at t5
    exact DR.tup t5 (DRAll.ints [i, j])
theorem fe_sortSet (hu : X.A.units + 64 < cLine) (he : FE X P e fa) (hm : X.mg "sorted" = none) (hm2 : X.mg "set" = none) (hc : X.calm = true := by rfl) (hK : X.K = P.K := by rfl) (hg : Gl X "sorted" := by rfl) (hg2 : Gl X "set" := by rfl)
    (he0 : starEach [e] X.env = (false, eval e X.env) :: starEach [] X.env := by rfl) (hpl : (backTo pos2 (starEach [] X.env)).any (·.1) = false := by rfl)
    (he1 : starEach [.Call (.Name "set" p2) [e] [] pos2] X.env = (false, eval (.Call (.Name "set" p2) [e] [] pos2) X.env) :: starEach [] X.env := by rfl) (hpl1 : (backTo pos (starEach [] X.env)).any (·.1) = false := by rfl) :
    FE X P (.Call (.Name "sorted" p) [.Call (.Name "set" p2) [e] [] pos2] [] pos) (m1 sortSetD fa) := by
  refine PE.imp (pe_callB (cr_sortSP hc) hg hm (by decide +kernel) (pa_cons (pe_callTy (cr_setOfT hc hu) hg2 hm2 (by decide +kernel) (pa_cons he pa_nil he0) (by decide) (by decide) he0 hpl) pa_nil he1) (by decide) (by decide) he1 hpl1) ?_
  rw [hK]
  rintro σ H Q ⟨M, r, ss, rw, z, rw', I, e, q⟩
  obtain ⟨y, rw1, e1, e⟩ := bnd_some e
  obtain ⟨e2, rfl⟩ := opt_some e
  refine ⟨M, r, ss, rw, y, _, I, e1, fun v H1 k1 I1 hv => ?_⟩
  unfold sortSetD at e2
  split at e2
  next ds =>
    split at e2
    next ks ek =>
      split at e2
      next hl =>
        cases e2
        have hS := I1.alloc
        rw [pairs?_eq ek] at hv
        obtain ⟨a, vs, rfl, ha, hd⟩ := vr_lst hv
        obtain ⟨qs, rfl, eq2, hq⟩ := dr_pairs hd
        have two : ∀ q ∈ qs, ∃ i j, q.2 = [i, j] := fun q hq' => by
          have : q.2 ∈ ks.map (fun p => [p.1, p.2]) := by rw [← eq2]; exact List.mem_map.mpr ⟨q, hq', rfl⟩
          obtain ⟨p, _, ep⟩ := List.mem_map.mp this
          exact ⟨_, _, ep.symm⟩
        refine ⟨a, qs, rfl, SqL.of (mk_le _ H1 _ _ ha), fun q hq' => sqT_mono (mk_le _ H1) (hq q hq'), ?_, fun s L hs hL1 hL2 => ?_⟩
        · have := congrArg List.length eq2
          rw [List.length_map, List.length_map] at this
          omega
        · have s1 : Same H1 (upd H1 s (SetTO X.prog X.w s L)) := upd_same' hs
          refine ⟨s, L, rfl, upd_same, fun q hq' => sqT_mono s1 (sqT_mono (mk_le _ H1) (hq q (hL1 q hq'))), fun q hq' => two q (hL1 q hq'), fun as p pm srt nd key hp => ?_⟩
          have s2 : Same (upd H1 s (SetTO X.prog X.w s L)) (upd (upd H1 s (SetTO X.prog X.w s L)) p (.lst (as.map V.ref))) := upd_same' hp
          have s3 := s1.trans s2
          have hp1 : H1 p = none := by
            cases z : H1 p with
            | none => rfl
            | some o => rw [s1 p o z] at hp; cases hp
          have ek1 : as.map (keyA L) = sortP ks := by
            refine up_one ?_ (up_sortP ks) fun x => ?_
            · have n1 : (as.map (keyA L)).Nodup := by
                have p1 := pm.map (keyA L)
                rw [List.map_map] at p1
                refine p1.nodup_iff.mpr ?_
                have e3 : L.map (keyA L ∘ fun q => q.1) = (L.map (·.2)).map twoOf := by
                  rw [List.map_map]
                  exact List.map_congr_left fun q hq' => key q hq'
                rw [e3]
                refine List.pairwise_map.mpr (List.Pairwise.imp_of_mem (fun {x y} hx hy hne ez => ?_) nd)
                obtain ⟨q1, hq1, rfl⟩ := List.mem_map.mp hx
                obtain ⟨q2, hq2, rfl⟩ := List.mem_map.mp hy
                exact hne (two_inj (two q1 (hL1 q1 hq1)) (two q2 (hL1 q2 hq2)) ez)
              have n2 := List.Pairwise.and srt n1
              refine n2.imp fun {x y} h => ?_
              have h1 : ¬ SrtO.lexB y x = true := by rw [h.1]; simp
              exact lex_tri (Ne.symm h.2) h1
            · rw [mem_sortP]
              have mem : x ∈ as.map (keyA L) ↔ ∃ q ∈ L, twoOf q.2 = x := by
                constructor
                · intro h
                  obtain ⟨b, hb, e4⟩ := List.mem_map.mp h
                  obtain ⟨q, hq', e5⟩ := List.mem_map.mp (pm.mem_iff.mp hb)
                  exact ⟨q, hq', by rw [← key q hq', e5]; exact e4⟩
                · rintro ⟨q, hq', e4⟩
                  exact List.mem_map.mpr ⟨q.1, pm.mem_iff.mpr (List.mem_map.mpr ⟨q, hq', rfl⟩), by rw [key q hq']; exact e4⟩
              rw [mem]
              constructor
              · rintro ⟨q, hq', rfl⟩
                have : q.2 ∈ ks.map (fun p => [p.1, p.2]) := by rw [← eq2]; exact List.mem_map.mpr ⟨q, hL1 q hq', rfl⟩
                obtain ⟨p, hp', ep⟩ := List.mem_map.mp this
                rw [← ep]
                exact hp'
              · intro hx
                have : [x.1, x.2] ∈ qs.map (·.2) := by rw [eq2]; exact List.mem_map.mpr ⟨x, hx, rfl⟩
                obtain ⟨q, hq', e6⟩ := List.mem_map.mp this
                obtain ⟨q3, hq3, e7⟩ := List.mem_map.mp (hL2 q hq')
                exact ⟨q3, hq3, by rw [e7, e6]; rfl⟩
          refine q _ _ (k1.trans (KeepR.of s3)) (I1.grow s3) ?_
          rw [← ek1]
          refine DR.lst (mk_at (not_S hS hp1) upd_same) ?_
          have sub := mk_grow (S := Msk M r σ ss) s3
          rw [List.map_map]
          exact drAll_pairs key (fun q hq' => two q (hL1 q hq')) (fun q hq' => sqT_mono sub (hq q (hL1 q hq'))) as fun b hb => by
            obtain ⟨q, hq', e5⟩ := List.mem_map.mp (pm.mem_iff.mp hb)
            exact ⟨q, hq', e5⟩
      next => cases e2
    next => cases e2
  next => cases e2
end
/-! ### try .. except C: without a name -/
section
variable {P : Pm} {X : Cx} {fx : Nat → Addr} {W : WX}
/-- hx tells, of a class of exceptions, whether the clause takes it -/
def sTryO (mb : Sx) (hx : Nat → Option Bool) (ms : Sx) : Sx := fun ss rw => match mb ss rw with
  | some (.er ex ss1 rw1) => (match hx ex.c with
    | some true => ms ss1 rw1
    | some false => some (.er ex ss1 rw1)
    | none => none)
  | o => o
theorem fs_tryO {x : Str} {c : Value} {body suite : List Stmt} {b₀ : Stmt} {np pos pos' : Pos} {mb ms : Sx} {hx : Nat → Option Bool} (hs : X.stack = X.env :: X.outer) (hf : X.env.frame = some X.env.locals) (hc : Names X x c) (tk : Takes X W)
    (hm : ∀ n b, hx n = some b → PySem.W.exmOne X.K (.ref (fx n)) c = some b)
    (hb : ∀ (W : WX) (pn : List (Addr × Obj)) (xe : Value → Shared → Prop), Takes (X.tr pn xe) W → PassesOwn (model X.prog X.w) X.A X.env xe → FSs (X.tr pn xe) P fx W body mb)
    (hsu : ∀ (a : Addr) (oe : Obj) (cls : Value) (d : Option Addr) (pn : List (Addr × Obj)), Zc cls d oe → (∃ vs, oe.data = .fields vs) → FSs (X.suite a ((a, oe) :: pn)) P fx W (b₀ :: suite) ms) :
    FS X P fx W (.Try body [.ExceptHandler (some (.Name x np)) none (b₀ :: suite) pos'] [] [] pos) (sTryO mb hx ms) := by
  refine PS.imp (ps_try_only (tb := fun W => tS P fx W mb) (ts := fun _ _ _ => tS P fx W ms) hs hf hc tk hb hsu) ?_
  rintro D σ H ⟨M, r, ss, rw, o, I, e, q⟩
  unfold sTryO at e
  split at e
  next ex ss1 rw1 e1 =>
    refine ⟨M, r, ss, rw, _, I, e1, fun σ' cls d H' g' I' hx' => ?_⟩
    split at e
    next hb => exact ⟨true, by rw [hx'.1]; exact hm _ _ hb, fun _ a ha => ⟨M, r, ss1, rw1, o, I', e, OuP.after g' q⟩, fun z => by cases z⟩
    next hb =>
      cases e
      exact ⟨false, by rw [hx'.1]; exact hm _ _ hb, (fun z => by cases z), fun _ => q σ' cls d H' g' I' hx'⟩
    next => cases e
  next hne =>
    refine ⟨M, r, ss, rw, o, I, e, ?_⟩
    cases o with
    | nx ss1 rw1 => exact q
    | bk ss1 rw1 => exact q
    | ct ss1 rw1 => exact q
    | rt x rw1 => exact q
    | rl ds rw1 => exact q
    | er x ss1 rw1 => exact absurd e (hne x ss1 rw1)
end
end FL
/-! zip of a list and two tuples. -/
namespace FL
open PySem L2 PyProof.Rows
/-- the list at p, the tuples at q and r, their items in new threes -/
def ItLTT (K : PySem.W.Frag) (p q r : Addr) : It :=
  ⟨fun i H => ∃ (xs ys zs : List V) (x y z : V), SqL K H p xs ∧ SqT K H q ys ∧ SqT K H r zs ∧ xs[i]? = some x ∧ ys[i]? = some y ∧ zs[i]? = some z,
    fun i H v H' => ∃ t x y z, v = .ref t ∧ H t = none ∧ H' = upd H t (.tup [x, y, z]) ∧ (∀ xs, SqL K H p xs → xs[i]? = some x) ∧ (∀ ys, SqT K H q ys → ys[i]? = some y) ∧ ∀ zs, SqT K H r zs → zs[i]? = some z,
    fun i H => ∃ xs ys zs : List V, SqL K H p xs ∧ SqT K H q ys ∧ SqT K H r zs ∧ i = min (min xs.length ys.length) zs.length⟩
theorem six {c z TI TO i1 i2 i3 : Addr} (h : c ∈ [z, TI, TO, i1, i2, i3]) : c = z ∨ c = TI ∨ c = TO ∨ c = i1 ∨ c = i2 ∨ c = i3 := by simpa using h
theorem turn_LTT {Pg : Program} {w : World} {K : PySem.W.Frag} {elts : List Expr} {kk : Nat} {tpos : Pos} {p q r z TI TO i1 i2 i3 : Addr} (D : ZipSep3 z TI TO i1 i2 i3 [i1, p] [i2, q] [i3, r]) (n1 : p ≠ i1) (n2 : q ≠ i2) (n3 : r ≠ i3) :
    Turn Pg w K (.Tuple elts kk tpos) (ItLTT K p q r) [z, TI, TO, i1, i2, i3] z (fun i h => IsZip h z TI TO .none ∧ IsTupOf3 h TI (.ref i1) (.ref i2) (.ref i3) ∧ (∃ a b c, IsTupOf3 h TO a b c) ∧ h.IsListIter i1 p i ∧ h.IsTupleIter i2 q i ∧ h.IsTupleIter i3 r i) where
  mem := List.mem_cons_self
  obj := fun i h st c hc => by
    obtain ⟨gz, gi, ⟨x, y, u, gu⟩, j1, j2, j3⟩ := st
    rcases six hc with rfl | rfl | rfl | rfl | rfl | rfl
    · exact ⟨_, gz, fun v z => nomatch z⟩
    · exact ⟨_, gi, fun v z => nomatch z⟩
    · exact ⟨_, gu, fun v z => nomatch z⟩
    · exact stp_list.obj j1
    · exact stp_tup.obj j2
    · exact stp_tup.obj j3
  keep := fun i h h' st k => by
    obtain ⟨gz, gi, ⟨x, y, u, gu⟩, j1, j2, j3⟩ := st
    exact ⟨k z (by simp) _ gz, k TI (by simp) _ gi, ⟨x, y, u, k TO (by simp) _ gu⟩, j1.at fun o e => k i1 (by simp) o e, j2.at fun o e => k i2 (by simp) o e, j3.at fun o e => k i3 (by simp) o e⟩
  item := by
    intro X hP hw hK hc i pins s σ H E I hf st hg
    subst hP hw hK
    obtain ⟨gz, gi, gu, j1, j2, j3⟩ := st
    obtain ⟨xs, ys, zs, x, y, u, hqx, hqy, hqz, hx, hy, hz⟩ := hg
    obtain ⟨us, rv, pl, _⟩ := I.list hqx
    obtain ⟨vs, rv2, pt, _⟩ := I.tuple hqy
    obtain ⟨ws, rv3, pt3, _⟩ := I.tuple hqz
    have l1 := rv.length
    have l2 := rv2.length
    have l3 := rv3.length
    obtain ⟨x', hx', rx⟩ := rv.get hx
    obtain ⟨y', hy', ry⟩ := rv2.get hy
    obtain ⟨u', hz', rz⟩ := rv3.get hz
    have k1 := (List.getElem?_eq_some_iff.mp hx).1
    have k2 := (List.getElem?_eq_some_iff.mp hy).1
    have k3 := (List.getElem?_eq_some_iff.mp hz).1
    have hh := I.ok.hd hc
    have W := WalksT.zipD3 (prog := X.prog) (w := X.w) (A := X.A) D (Draws.list (A := X.A.in1) hh i1 p n1 us.toArray) (Draws.tuple (A := X.A.in1) hh i2 q n2 vs.toArray) (Draws.tuple (A := X.A.in1) hh i3 r n3 ws.toArray)
    refine W.item i s _ E (by simp; omega) ⟨gz, gi, gu, ⟨j1, pl.isList⟩, ⟨j2, show s.heap.IsTuple q vs.toArray from pt⟩, ⟨j3, show s.heap.IsTuple r ws.toArray from pt3⟩⟩ ?_
    rintro T vals h' tk ⟨a, b, c, ea, eb, ec, rfl⟩ hT hTup md kp
    refine ⟨_, rfl, W.go elts kk tpos i T { s with heap := h', toks := tk } _ E md fun h2 st2 kp2 => ?_⟩
    have nT : T ∉ [z, TO, i1, i2, i3] := W.apart i T h' md
    have ea' : x' = a := by simpa [hx'] using ea
    have eb' : y' = b := by simpa [hy'] using eb
    have ec' : u' = c := by simpa [hz'] using ec
    subst ea' eb' ec'
    obtain ⟨oT, ho, hcT, nn, hd⟩ := hTup
    have ob : ObjOk X.prog X.w (upd H T (.tup [x, y, u])) h2 T (.tup [x, y, u]) := ⟨by show 3 ≤ sizeLine; decide, [x', y', u'], .cons rx (.cons ry (.cons rz .nil)), ⟨oT, kp2 T oT nT ho, hcT, nn, hd⟩⟩
    have sub : ∀ c, c ∉ [z, TI, TO, i1, i2, i3] → c ∉ [z, TO, i1, i2, i3] := fun c hb hc => hb (by simp at hc ⊢; rcases hc with h | h | h | h | h <;> simp [h])
    have I1 : Inv X pins σ (upd H T (.tup [x, y, u])) { s with heap := h2, toks := tk } :=
      I.turnedNew (t' := tk) (ch := [z, TI, TO, i1, i2, i3]) (fun c o hb e => kp2 c o (sub c hb) (kp c o (sub c hb) e)) hf hT ob
    obtain ⟨gz2, gi2, gu2, ⟨q1, _⟩, ⟨q2, _⟩, ⟨q3, _⟩⟩ := st2
    refine ⟨.ref T, _, I1, rfl, ⟨_, x, y, u, rfl, I.hok.fresh hT, rfl, fun l hl => by rw [I.list_inj hl hqx]; exact hx, fun l hl => by rw [I.tuple_inj hl hqy]; exact hy, fun l hl => by rw [I.tuple_inj hl hqz]; exact hz⟩, ⟨gz2, gi2, gu2, q1, q2, q3⟩, fun c hcm => ?_⟩
    have lt : c < s.heap.objs.size := by
      rcases six hcm with rfl | rfl | rfl | rfl | rfl | rfl
      · exact Heap.lt_size gz
      · exact Heap.lt_size gi
      · exact Heap.lt_size gu.choose_spec.choose_spec.choose_spec
      · exact Heap.lt_size j1.choose_spec.1
      · exact Heap.lt_size j2.choose_spec.1
      · exact Heap.lt_size j3.choose_spec.1
    rw [upd_ne (Nat.ne_of_lt (Nat.lt_of_lt_of_le lt hT))]
    exact (hf c hcm).1
  done := by
    intro X hP hw hK hc i pins s σ H E I hf st hg
    subst hP hw hK
    obtain ⟨gz, gi, gu, j1, j2, j3⟩ := st
    obtain ⟨xs, ys, zs, hqx, hqy, hqz, he⟩ := hg
    obtain ⟨us, rv, pl, _⟩ := I.list hqx
    obtain ⟨vs, rv2, pt, _⟩ := I.tuple hqy
    obtain ⟨ws, rv3, pt3, _⟩ := I.tuple hqz
    have l1 := rv.length
    have l2 := rv2.length
    have l3 := rv3.length
    have hh := I.ok.hd hc
    have W := WalksT.zipD3 (prog := X.prog) (w := X.w) (A := X.A) D (Draws.list (A := X.A.in1) hh i1 p n1 us.toArray) (Draws.tuple (A := X.A.in1) hh i2 q n2 vs.toArray) (Draws.tuple (A := X.A.in1) hh i3 r n3 ws.toArray)
    have en : i = min (min us.toArray.size vs.toArray.size) ws.toArray.size := by simp; omega
    subst en
    have sub : ∀ c, c ∉ [z, TI, TO, i1, i2, i3] → c ∉ [z, TO, i1, i2, i3] := fun c hb hc => hb (by simp at hc ⊢; rcases hc with h | h | h | h | h <;> simp [h])
    exact W.done s _ E ⟨gz, gi, gu, ⟨j1, pl.isList⟩, ⟨j2, show s.heap.IsTuple q vs.toArray from pt⟩, ⟨j3, show s.heap.IsTuple r ws.toArray from pt3⟩⟩ fun h' tk kp =>
      ⟨rfl, I.turnedL (t' := tk) (ch := [z, TI, TO, i1, i2, i3]) (fun c o hb e => kp c o (sub c hb) e) hf⟩
  self := fun A i s Q E st h => wpAny_pyIter_zip st.1 h
def iZipLTT (K : PySem.W.Frag) (ta : TA) : TI := fun σ H R => ta σ H fun vs H1 => ∃ a b c xs ys zs, vs = [.ref a, .ref b, .ref c] ∧ SqL K H1 a xs ∧ SqT K H1 b ys ∧ SqT K H1 c zs ∧ R (ItLTT K a b c) H1
theorem pi_zipLTT {X : Cx} {e e2 e3 : Expr} {ta : TA} {p pos tpos : Pos} {elts : List Expr} {kk : Nat} (hg : Gl X "zip") (hm : X.mg "zip" = none) (ha : PA X [e, e2, e3] ta)
    (hs : starEach [e, e2, e3] X.env = (false, eval e X.env) :: starEach [e2, e3] X.env := by rfl) (hpl : (backTo pos (starEach [e2, e3] X.env)).any (·.1) = false := by rfl) :
    PI X (.Tuple elts kk tpos) (.Call (.Name "zip" p) [e, e2, e3] [] pos) (iZipLTT X.K ta) := by
  refine ⟨fun pins s σ H R I h => ?_⟩
  refine Call_ (ld_blt I hg hm PyProof.Rows.boot_zip (PyProof.Rows.callWith_type1 (thn (ha.run pos pins s σ H _ I h) fun us s1 ⟨vs, H1, I1, r1, q1⟩ => ?_) hs hpl))
  obtain ⟨a, b, c, xs, ys, zs, ex, hqx, hqy, hqz, q⟩ := q1
  subst ex
  rcases r1 with _ | ⟨r, rr⟩
  rcases rr with _ | ⟨r', rr⟩
  rcases rr with _ | ⟨r'', rr⟩
  cases rr
  cases r
  cases r'
  cases r''
  obtain ⟨its, rv, p1, _⟩ := I1.list hqx
  obtain ⟨its2, rv2, p2, _⟩ := I1.tuple hqy
  obtain ⟨its3, rv3, p3, _⟩ := I1.tuple hqz
  have q2 : s1.heap.IsTuple b its2.toArray := p2
  have q3 : s1.heap.IsTuple c its3.toArray := p3
  have la : a < s1.heap.objs.size := p1.lt
  have lb : b < s1.heap.objs.size := Heap.lt_size q2.choose_spec.1
  have lc : c < s1.heap.objs.size := Heap.lt_size q3.choose_spec.1
  refine zip_begins3 (begins_list a its.toArray) (begins_tuple b its2.toArray) (begins_tuple c its3.toArray) p1.isList q2 q3 fun h' hz hTI hTO g1 g2 g3 hsz hk => wpAny_pyIter_zip hz ?_
  have I2 : Inv X pins σ H1 { s1 with heap := h' } := I1.kept (t' := s1.toks) hk
  have fr : ∀ d, d ∈ [s1.heap.objs.size + 5, s1.heap.objs.size + 3, s1.heap.objs.size + 4, s1.heap.objs.size, s1.heap.objs.size + 1, s1.heap.objs.size + 2] → FpOk X pins H1 d := fun d hd => by
    have hle : s1.heap.objs.size ≤ d := by
      rcases six hd with z | z | z | z | z | z <;> rw [z] <;> first | exact Nat.le_add_right _ _ | exact Nat.le_refl _
    exact I1.fpOk hle (I1.hok.fresh hle)
  have sep := zip_sep3 (N := s1.heap.objs.size) (fp1 := [a]) (fp2 := [b]) (fp3 := [c]) (fun d hd => by rw [List.mem_singleton.mp hd]; exact la) (fun d hd => by rw [List.mem_singleton.mp hd]; exact lb) (fun d hd => by rw [List.mem_singleton.mp hd]; exact lc)
  exact ⟨s1.heap.objs.size + 5, _, _, _, H1, rfl, I2, turn_LTT sep (Nat.ne_of_lt la) (Nat.ne_of_lt (Nat.lt_succ_of_lt lb)) (Nat.ne_of_lt (Nat.lt_succ_of_lt (Nat.lt_succ_of_lt lc))), ⟨hz, hTI, ⟨_, _, _, hTO⟩, ⟨_, g1, rfl, rfl⟩, ⟨_, g2, rfl, rfl⟩, ⟨_, g3, rfl, rfl⟩⟩, fr, q⟩
/-! ### as data -/
def zpD3 : List PyData → List PyData → List PyData → List PyData
  | d :: ds, e :: es, g :: gs => .tuple [d, e, g] :: zpD3 ds es gs
  | _, _, _ => []
theorem zpD3_len : ∀ ds es gs : List PyData, (zpD3 ds es gs).length = min (min ds.length es.length) gs.length
  | [], es, gs => by simp [zpD3]
  | d :: ds, [], gs => by simp [zpD3]
  | d :: ds, e :: es, [] => by simp [zpD3]
  | d :: ds, e :: es, g :: gs => by
    unfold zpD3
    rw [List.length_cons, zpD3_len ds es gs]
    simp only [List.length_cons]
    omega
theorem zpD3_get : ∀ {ds es gs : List PyData} {i : Nat} {d e g : PyData}, ds[i]? = some d → es[i]? = some e → gs[i]? = some g → (zpD3 ds es gs)[i]? = some (.tuple [d, e, g])
  | [], es, gs, i, d, e, g, h, _, _ => by simp at h
  | d :: ds, [], gs, i, _, e, g, _, h, _ => by simp at h
  | d :: ds, e :: es, [], i, _, _, g, _, _, h => by simp at h
  | d :: ds, e :: es, g :: gs, 0, d', e', g', h, h', h'' => by
    simp at h h' h''
    subst h h' h''
    rfl
  | d :: ds, e :: es, g :: gs, i + 1, d', e', g', h, h', h'' => by
    unfold zpD3
    rw [List.getElem?_cons_succ]
    exact zpD3_get (by simpa using h) (by simpa using h') (by simpa using h'')
theorem wlk_LTT {P : Pm} {S : Addr → Prop} {H : Hp} {p q r : Addr} {us vs ws : List V} {ds es gs : List PyData} (hp : SqL P.K (hdn S H) p us) (hq : SqT P.K (hdn S H) q vs) (hr : SqT P.K (hdn S H) r ws)
    (h1 : DRAll P.K (hdn S H) us ds) (h2 : DRAll P.K (hdn S H) vs es) (h3 : DRAll P.K (hdn S H) ws gs) : Wlk P S H (ItLTT P.K p q r) (zpD3 ds es gs) := fun S1 H1 s al => by
  have l1 := DRAll.length h1
  have l2 := DRAll.length h2
  have l3 := DRAll.length h3
  have e1 : SqL P.K H1 p us := (mk_le S1 H1).seq (s.seq hp)
  have e2 : SqT P.K H1 q vs := sqT_mono (mk_le S1 H1) (sqT_mono s hq)
  have e3 : SqT P.K H1 r ws := sqT_mono (mk_le S1 H1) (sqT_mono s hr)
  refine ⟨fun i hi => ?_, ⟨us, vs, ws, e1, e2, e3, by rw [zpD3_len, l1, l2, l3]⟩⟩
  rw [zpD3_len] at hi
  obtain ⟨d, hd⟩ : ∃ d, ds[i]? = some d := ⟨ds[i]'(by omega), List.getElem?_eq_getElem (by omega)⟩
  obtain ⟨e, he⟩ : ∃ e, es[i]? = some e := ⟨es[i]'(by omega), List.getElem?_eq_getElem (by omega)⟩
  obtain ⟨g, hg⟩ : ∃ g, gs[i]? = some g := ⟨gs[i]'(by omega), List.getElem?_eq_getElem (by omega)⟩
  obtain ⟨u, a1, a2⟩ := DRAll.get h1 hd
  obtain ⟨v, b1, b2⟩ := DRAll.get h2 he
  obtain ⟨w, c1, c2⟩ := DRAll.get h3 hg
  refine ⟨⟨us, vs, ws, u, v, w, e1, e2, e3, a1, b1, c1⟩, fun x H' y => ?_⟩
  obtain ⟨T, x1, y1, z1, rfl, hT, rfl, f1, f2, f3⟩ := y
  have g1 := f1 us e1
  have g2 := f2 vs e2
  have g3 := f3 ws e3
  rw [a1] at g1
  rw [b1] at g2
  rw [c1] at g3
  cases g1
  cases g2
  cases g3
  obtain ⟨k1, k2⟩ := new_tup (P := P) al (.cons (dr_mono s _ _ a2) (.cons (dr_mono s _ _ b2) (.cons (dr_mono s _ _ c2) .nil))) hT
  exact ⟨k1, _, zpD3_get hd he hg, k2⟩
def mZ33 (fa fb fc : Mx Vl) : Mx (List PyData) := bnd fa fun x => bnd fb fun y => bnd fc fun z => opt (match x, y, z with
  | .dat (.list ds), .dat (.tuple es), .dat (.tuple gs) => some (zpD3 ds es gs)
  | _, _, _ => none)
theorem fi_zip33 {P : Pm} {X : Cx} {a b c : Expr} {fa fb fc : Mx Vl} {p pos tpos : Pos} {elts : List Expr} {kk : Nat} (ha : FE X P a fa) (hb : FE X P b fb) (hc : FE X P c fc) (hm : X.mg "zip" = none) (hK : X.K = P.K := by rfl) (hg : Gl X "zip" := by rfl)
    (hs : starEach [a, b, c] X.env = (false, eval a X.env) :: starEach [b, c] X.env := by rfl) (hs2 : starEach [b, c] X.env = (false, eval b X.env) :: starEach [c] X.env := by rfl) (hs3 : starEach [c] X.env = (false, eval c X.env) :: starEach [] X.env := by rfl)
    (hpl : (backTo pos (starEach [b, c] X.env)).any (·.1) = false := by rfl) :
    FI X P (.Tuple elts kk tpos) (.Call (.Name "zip" p) [a, b, c] [] pos) (mZ33 fa fb fc) := by
  refine PI.imp (pi_zipLTT hg hm (pa_cons ha (pa_cons hb (pa_cons hc pa_nil hs3) hs2) hs) hs hpl) ?_
  rw [hK]
  rintro σ H R ⟨M, r0, ss, rw, xs, rw', I, e, q⟩
  obtain ⟨y1, rw1, e1, e⟩ := bnd_some e
  obtain ⟨y2, rw2, e2, e⟩ := bnd_some e
  obtain ⟨y3, rw3, e3, e⟩ := bnd_some e
  obtain ⟨e4, rfl⟩ := opt_some e
  refine ⟨M, r0, ss, rw, _, _, I, e1, fun v H1 k1 I1 hv => ⟨M, r0, ss, _, _, _, I1, e2, fun u H2 k2 I2 hu => ⟨M, r0, ss, _, _, _, I2, e3, fun w H3 k3 I3 hw => ?_⟩⟩⟩
  have hv2 := VR.mono k3.msk (VR.mono k2.msk hv)
  have hu2 := VR.mono k3.msk hu
  split at e4
  next ds es gs =>
    cases e4
    obtain ⟨p1, vs, rfl, h1, h2⟩ := vr_lst hv2
    obtain ⟨p2, us, rfl, g1, g2⟩ := vr_tup hu2
    obtain ⟨p3, ws, rfl, f1, f2⟩ := vr_tup hw
    exact ⟨p1, p2, p3, vs, us, ws, rfl, SqL.of (mk_le _ H3 _ _ h1), sqT_mono (mk_le _ H3) g1, sqT_mono (mk_le _ H3) f1, q _ H3 ((k1.trans k2).trans k3) I3 (wlk_LTT (SqL.of h1) g1 f1 h2 g2 f2)⟩
  next => cases e4
end FL
/-! set of a list of ints; sorted of it. -/
namespace L2
open PySem PySem.Spec PyProof.Rows
abbrev nuO (w : World) : Obj := { cls := .type "set", dict := none, data := .set #[] 0 (.fresh 0 0 (!w.params.followText "set-order")) }
section
variable {P : Program} {w : World} {A : Around} {E : Value → Shared → Prop} {s : Shared}
theorem set_of_list {l : Addr} {xs : Array Value} (ns : List Int) {Q : Value → Shared → Prop} (hh : A.handled = none) (hl : s.heap.IsList l xs) (ht : IntsAre xs.toList ns) (hb : ns.length + 1 < scanBound)
    (fin : ∀ (g : Heap) (tk c : Nat), SetR w g s.heap.objs.size (fun j => decide (j ∈ ns)) c → c ≤ ns.length → (∀ b o, s.heap.get? b = some o → g.get? b = some o) → Q (.ref s.heap.objs.size) { s with heap := g, toks := tk }) :
    wpAny (model P w) A (call (.type "set") [.ref l]) Q E s := by
  have lenE : xs.size = ns.length := by have q := IntsAre.length ht; rw [Array.length_toList] at q; exact q
  obtain ⟨c, tl, hmro⟩ := F.called_set.mro
  have hmade := F.called_set.made; have hsub := F.called_set.sub
  apply wpAny_call; apply codeAny_of_tree
  show wpAny _ _ (callAny (.type "set") ⟨[.ref l], []⟩) _ _ _
  refine wpAny_pure ⟨Code.quiet_builtin _ (by decide +kernel), ?_⟩; apply codeAny_builtin F.entry_type_call
  rw [Around.under_plain (weight_type_call_type "set" [Value.ref l] []) rfl]
  have h1 := F.called_set.notType; have h2 := F.called_set.canCreate; have hct := F.typeCall_set_1 (.ref l)
  repeat (any_goals (first | assumption | wp_step))
  refine codeAny_mono (code_set_led1 (P := P) (w := w) (.ref l) (E := E) (Q₁ := fun v s₁ => v = .ref s.heap.objs.size ∧ s₁ = { s with heap := s.heap.push (nuO w) }) ⟨rfl, rfl⟩) ?_
  intro r s₁ hr
  rcases r with e | fl
  · exact hr
  cases fl <;> first | exact hr.elim | skip
  obtain ⟨rfl, rfl⟩ := hr
  have atS : (s.heap.push (nuO w)).get? s.heap.objs.size = some (nuO w) := Heap.get?_push_size _ rfl
  have hT : Shared.TypeIs { s with heap := s.heap.push (nuO w) } (.ref s.heap.objs.size) "set" := ⟨_, atS, rfl⟩
  have hli := F.called_set.init.lookup; have hbi := F.called_set.init.bind (.ref s.heap.objs.size)
  repeat (any_goals (first | assumption | wp_step))
  refine codeAny_mono (codeAny_call_builtin (R := wants (fun r s₂ => r = .none ∧ ∃ g tk c, s₂ = { s with heap := g, toks := tk } ∧ SetR w g s.heap.objs.size (fun j => decide (j ∈ ns)) c ∧ c ≤ ns.length ∧ ∀ b o, s.heap.get? b = some o → g.get? b = some o) E)
    F.called_set.init.plain F.entry_set_init (check_set_init_1 hT ?_)) ?_
  · obtain ⟨ol, hol, hcl, nl, hdl⟩ := hl
    obtain ⟨oc, od, oD, osl⟩ := ol
    simp only at hcl hdl
    subst hcl hdl
    have hol' : (s.heap.push (nuO w)).get? l = some { cls := .type "list", dict := od, data := .seq xs nl, slots := osl } := Heap.get?_push_of_some _ hol
    have hs1 := F.sub_list_set; have hs2 := F.sub_list_frozenset
    have hne : (Value.type "list" == Value.type "dict") = false := by decide
    have hl1 : (s.heap.push (nuO w)).IsList l xs := ⟨_, hol', rfl, nl, rfl⟩
    unfold Builtin.«set.__init__» noKeywords Builtin.Frozenset.updateFrom
    generalize hPI : pyIter = PI
    wp_walk
    subst hPI
    apply wpAny_pyIter_list hl1; refine wpAny_bind (wpAny_runValue ?_)
    have lS : l < s.heap.objs.size := Heap.lt_size hol
    have hh3 : A.in1.in1.in1.handled = none := by simp [hh]
    have neI : l ≠ (s.heap.push (nuO w)).objs.size := by rw [Heap.size_push]; exact Nat.ne_of_lt (Nat.lt_succ_of_lt lS)
    have sf : s.heap.objs.size ∉ [(s.heap.push (nuO w)).objs.size, l] := fun z => by
      rw [Heap.size_push] at z
      rcases List.mem_cons.mp z with e | e
      · exact absurd e (Nat.ne_of_lt (Nat.lt_succ_self _))
      · exact absurd (List.mem_singleton.mp e) (Nat.ne_of_gt lS)
    have val : ∀ (i : Nat) (v : Value), xs[i]? = some v → ∃ k t, ns[i]? = some k ∧ v = .int k t := fun i v hv => by
      have hi : i < ns.length := by rw [← lenE]; exact (Array.getElem?_eq_some_iff.mp hv).1
      obtain ⟨t, e⟩ := PyProof.Rows.IntsAre.int_at ht i v (by rw [Array.getElem?_toList]; exact hv)
      exact ⟨ns[i], t, List.getElem?_eq_getElem hi, by rw [e, List.getD_eq_getElem?_getD, List.getElem?_eq_getElem hi]; rfl⟩
    have start : ((s.heap.push (nuO w)).push { cls := .type "list_iterator", data := .fields #[.ref l, .int 0 0] }).get? s.heap.objs.size = some (nuO w) := Heap.get?_push_of_some _ atS
    apply set_update_ints ((Walks.list hh3 _ l neI xs).toS) s.heap.objs.size sf ns lenE hb val (xs.size - 0) 0 _ (by omega) (Nat.zero_le _) ⟨⟨_, Heap.get?_push_size _ rfl, rfl, rfl⟩, hl1.push _⟩ ⟨0, Nat.le_refl 0, setR_new_at start⟩
    intro s' c' hm hc' hS'
    obtain ⟨g, g2, d', tk', os'⟩ := s'
    have eg : g2 = s.gens := hm.gens
    have ed : d' = s.drawn := hm.drawn
    have eo : os' = s.os := hm.os
    subst eg ed eo
    show wpAny _ _ _ _ _ _
    apply wpAny_pure
    show wpAny _ _ (ret Value.none) _ _ _
    rw [lenE] at hc'
    refine wpAny_pure ⟨rfl, g, tk', c', rfl, hS', hc', ?_⟩
    intro b o e
    have lb : b < s.heap.objs.size := Heap.lt_size e
    refine hm.heap b o (fun z => ?_) (Heap.get?_push_of_some _ (Heap.get?_push_of_some _ e))
    rcases List.mem_cons.mp z with q | q
    · exact absurd q (Nat.ne_of_lt lb)
    · have q := List.mem_singleton.mp q
      rw [Heap.size_push] at q
      exact absurd q (Nat.ne_of_lt (Nat.lt_succ_of_lt lb))
  · intro r₂ s₂ hr₂
    rcases r₂ with e | fl₂
    · exact hr₂
    cases fl₂ <;> first | exact hr₂.elim | skip
    obtain ⟨rfl, g, tk, c, rfl, hS', hc', hk'⟩ := hr₂
    repeat (any_goals (first | assumption | wp_step))
    exact fin _ _ _ hS' hc' hk'
end
/-- set(xs), xs a list of ints -/
def rSetLI (K : PySem.W.Frag) (w : World) : List V → Hp → VK → Prop := fun vs H Q => ∃ (l : Addr) (ns : List Int), vs = [V.ref l] ∧ SqL K H l (ns.map V.int) ∧ ns.length < 64 ∧ ∀ (a : Addr) (c : Nat), H a = none → c ≤ ns.length → Q (.ref a) (upd H a (SetO w a (fun j => decide (j ∈ ns)) c))
theorem cr_setLI {X : Cx} (hc : X.calm = true) : CallR X (.type "set") (rSetLI X.K X.w) := by
  rintro pins s σ H vs us Q I r ⟨l, ns, rfl, hl, hf, q⟩
  rw [Vals.ref1 r]
  obtain ⟨its, rv, pl, hz⟩ := I.list hl
  have hn : H s.heap.objs.size = none := I.hok.fresh (Nat.le_refl _)
  refine set_of_list ns (I.ok.hd hc) pl.isList (by simpa using RZ.intsAre_vals rv) (by unfold scanBound; omega) fun g tk c R hcn k => ?_
  exact ⟨.ref s.heap.objs.size, upd H s.heap.objs.size (SetO X.w s.heap.objs.size (fun j => decide (j ∈ ns)) c), I.laid (t' := tk) k (Nat.le_refl _) (setO_new R), rfl, q _ c hn hcn⟩
end L2
namespace FL
open PySem L2
/-! ### rising lists of ints -/
def insI (p : Int) : List Int → List Int
  | [] => [p]
  | q :: l => if p = q then q :: l else if p < q then p :: q :: l else q :: insI p l
def sortI (l : List Int) : List Int := l.foldr insI []
theorem mem_insI {x p : Int} : ∀ {l : List Int}, x ∈ insI p l ↔ x = p ∨ x ∈ l
  | [] => by simp [insI]
  | q :: l => by
    unfold insI
    split
    next h => subst h; simp
    next h =>
      split
      next h2 => simp
      next h2 =>
        rw [List.mem_cons, mem_insI, List.mem_cons]
        constructor
        · rintro (h | h | h)
          · exact .inr (.inl h)
          · exact .inl h
          · exact .inr (.inr h)
        · rintro (h | h | h)
          · exact .inr (.inl h)
          · exact .inl h
          · exact .inr (.inr h)
theorem up_insI {p : Int} : ∀ {l : List Int}, l.Pairwise (· < ·) → (insI p l).Pairwise (· < ·)
  | [], _ => List.pairwise_singleton _ _
  | q :: l, h => by
    obtain ⟨h1, h2⟩ := List.pairwise_cons.mp h
    unfold insI
    split
    next e => exact h
    next e =>
      split
      next e2 => exact List.pairwise_cons.mpr ⟨fun x hx => by
        rcases List.mem_cons.mp hx with z | z
        · rw [z]; exact e2
        · exact Int.lt_trans e2 (h1 x z), h⟩
      next e2 => exact List.pairwise_cons.mpr ⟨fun x hx => by
        rcases mem_insI.mp hx with z | z
        · rw [z]; omega
        · exact h1 x z, up_insI h2⟩
theorem up_sortI : ∀ l : List Int, (sortI l).Pairwise (· < ·)
  | [] => .nil
  | p :: l => up_insI (up_sortI l)
theorem mem_sortI {x : Int} : ∀ {l : List Int}, x ∈ sortI l ↔ x ∈ l
  | [] => by simp [sortI]
  | p :: l => by
    show x ∈ insI p (sortI l) ↔ _
    rw [mem_insI, mem_sortI, List.mem_cons]
theorem upI_one : ∀ {l m : List Int}, l.Pairwise (· < ·) → m.Pairwise (· < ·) → (∀ x, x ∈ l ↔ x ∈ m) → l = m
  | [], [], _, _, _ => rfl
  | [], q :: m, _, _, h => absurd ((h q).mpr List.mem_cons_self) (by simp)
  | p :: l, [], _, _, h => absurd ((h p).mp List.mem_cons_self) (by simp)
  | p :: l, q :: m, hl, hm, h => by
    obtain ⟨l1, l2⟩ := List.pairwise_cons.mp hl
    obtain ⟨m1, m2⟩ := List.pairwise_cons.mp hm
    have e : p = q := by
      rcases List.mem_cons.mp ((h p).mp List.mem_cons_self) with z | z
      · exact z
      · rcases List.mem_cons.mp ((h q).mpr List.mem_cons_self) with y | y
        · exact y.symm
        · have a := m1 p z
          have b := l1 q y
          omega
    subst e
    rw [upI_one l2 m2 fun x => ?_]
    constructor
    · intro hx
      rcases List.mem_cons.mp ((h x).mp (List.mem_cons_of_mem _ hx)) with z | z
      · have a := l1 x hx
        omega
      · exact z
    · intro hx
      rcases List.mem_cons.mp ((h x).mpr (List.mem_cons_of_mem _ hx)) with z | z
      · have a := m1 x hx
        omega
      · exact z
def sortSetI : Vl → Option Vl
  | .dat (.list ds) => match ints? ds with
    | some ns => if ns.length < 64 then some (.dat (.list ((sortI ns).map .int))) else none
    | none => none
  | _ => none
section
variable {P : Pm} {X : Cx} {e : Expr} {fa : Mx Vl} {p p2 pos pos2 : Pos}
theorem fe_sortSetI (he : FE X P e fa) (hm : X.mg "sorted" = none) (hm2 : X.mg "set" = none) (hc : X.calm = true := by rfl) (hK : X.K = P.K := by rfl) (hg : Gl X "sorted" := by rfl) (hg2 : Gl X "set" := by rfl)
    (he0 : starEach [e] X.env = (false, eval e X.env) :: starEach [] X.env := by rfl) (hpl : (backTo pos2 (starEach [] X.env)).any (·.1) = false := by rfl)
    (he1 : starEach [.Call (.Name "set" p2) [e] [] pos2] X.env = (false, eval (.Call (.Name "set" p2) [e] [] pos2) X.env) :: starEach [] X.env := by rfl) (hpl1 : (backTo pos (starEach [] X.env)).any (·.1) = false := by rfl) :
    FE X P (.Call (.Name "sorted" p) [.Call (.Name "set" p2) [e] [] pos2] [] pos) (m1 sortSetI fa) := by
  refine PE.imp (pe_callB (cr_sortedSet hc) hg hm (by decide +kernel) (pa_cons (pe_callTy (cr_setLI hc) hg2 hm2 (by decide +kernel) (pa_cons he pa_nil he0) (by decide) (by decide) he0 hpl) pa_nil he1) (by decide) (by decide) he1 hpl1) ?_
  rw [hK]
  rintro σ H Q ⟨M, r, ss, rw, z, rw', I, e, q⟩
  obtain ⟨y, rw1, e1, e⟩ := bnd_some e
  obtain ⟨e2, rfl⟩ := opt_some e
  refine ⟨M, r, ss, rw, y, _, I, e1, fun v H1 k1 I1 hv => ?_⟩
  unfold sortSetI at e2
  split at e2
  next ds =>
    split at e2
    next ns en =>
      split at e2
      next hl =>
        cases e2
        have hS := I1.alloc
        rw [ints?_map en] at hv
        obtain ⟨a, vs, rfl, ha, hd⟩ := vr_lst hv
        have ev := DRAll.ints_inv hd
        subst ev
        refine ⟨a, ns, rfl, SqL.of (mk_le _ H1 _ _ ha), hl, fun s c hs hcn => ?_⟩
        have s1 : Same H1 (upd H1 s (SetO X.w s (fun j => decide (j ∈ ns)) c)) := upd_same' hs
        refine ⟨s, _, c, rfl, upd_same, by omega, fun ms p hup hmem hlen hp => ?_⟩
        have s2 : Same (upd H1 s (SetO X.w s (fun j => decide (j ∈ ns)) c)) (upd (upd H1 s (SetO X.w s (fun j => decide (j ∈ ns)) c)) p (.lst (ms.map V.int))) := upd_same' hp
        have s3 := s1.trans s2
        have hp1 : H1 p = none := by
          cases z : H1 p with
          | none => rfl
          | some o => rw [s1 p o z] at hp; cases hp
        have em : ms = sortI ns := upI_one hup (up_sortI ns) fun x => by
          rw [hmem, mem_sortI]
          simp
        refine q _ _ (k1.trans (KeepR.of s3)) (I1.grow s3) ?_
        rw [← em]
        exact DR.lst (mk_at (not_S hS hp1) upd_same) (DRAll.ints ms)
      next => cases e2
    next => cases e2
  next => cases e2
end
/-! ### // by any number but 0 -/
def fdvnI (i j : Int) : Option PyData := if j ≠ 0 ∧ j.natAbs < 1073741824 then some (.int (i.fdiv j)) else none
def fdvnD := i2 fdvnI
theorem ok_fdvn {P : Pm} : ROk P (rI CDivN fun i j => .int (i.fdiv j)) fdvnD := ok_i2 fun i j d e => by
  unfold fdvnI at e
  split at e
  next h => cases e; exact ⟨h, fun H => .int _⟩
  next => cases e
/-- both readings of sorted(set(..)) -/
def sortSetB (x : Vl) : Option Vl := match sortSetI x with
  | some y => some y
  | none => sortSetD x
end FL
/-! xs.count(x), any data. -/
namespace FL
open PySem PySem.Spec L2 PyProof.Rows
theorem eqv_count {h : Heap} {us : List Value} {ds : List PyData} {as : List Addr} {d : PyData} (rs : ReadsAll h us ds as) (hxs : PyData.canLayAll0 ds = true) : us.countP (fun y => PyData.eqv (SeqAt.readOf h y) d) = ds.countP fun z => PyData.eqv z d := by
  rw [← SeqAt.readsAll_map ds us as hxs rs, List.countP_map]
  rfl
def rCntD (K : PySem.W.Frag) : V → List V → Hp → VK → Prop := fun x xs H Q => ∃ (p : Addr) (y : V) (d : PyData) (ds : List PyData), x = .ref p ∧ xs = [y] ∧ Dp K H (.ref p) (.list ds) ∧ Dp K H y d ∧ SeqAt.shaped (.list ds) = true ∧ SeqAt.shaped d = true ∧ Q (.int (ds.countP fun z => PyData.eqv z d : Nat)) H
theorem mt_cntD {X : Cx} (hu : X.A.units + 65 < cLine) : MtR X "list.count" (rCntD X.K) := by
  rintro pins s σ H x xs v us Q I rx rxs ⟨p, y, d, ds, rfl, rfl, hl, hy, sl, sd, q⟩
  cases rx
  obtain ⟨u, rfl, ru⟩ := rxs.one
  obtain ⟨bs, r1⟩ := Dp.reads I d y u hy ru
  have cl : PyData.canLayAll0 ds = true := SeqAt.canLay_of_shaped sl
  cases hl with
  | lst hs ha =>
    obtain ⟨its, rv, ⟨⟨oc, od, oD, osl⟩, n, ho, hc, hdn, hd⟩, hlen⟩ := I.list hs
    simp only at hc hd
    subst hc hd
    obtain ⟨as, h4⟩ := Dp.readsAll I ds _ its ha rv
    have h5 : ReadsAll s.heap its.toArray.toList ds as := h4
    have go := SeqAt.list_countAt p its.toArray n od osl u fun w => PyData.eqv (SeqAt.readOf s.heap w) d
    refine call_meets PySem.F.slot_list_count ⟨_, ho, rfl⟩ PySem.F.entry_list_count (PySem.F.args_list_count_2 _ _) go ⟨ho, SeqAt.items_eqAt (vs := its.toArray) h5 r1 cl (SeqAt.canLay_of_shaped sd) (room_in_shaped sd hu), ?_⟩
    refine ⟨.int (ds.countP fun z => PyData.eqv z d : Nat), H, I.tok _, ⟨s.toks, ?_⟩, q⟩
    have e := eqv_count (d := d) h5 cl
    show Value.int ((its.toArray.toList.countP _ : Nat) : Int) s.toks = _
    rw [e]
def countD : Vl → Vl → Option Vl
  | .dat (.list ds), .dat d => if SeqAt.shaped (.list ds) = true ∧ SeqAt.shaped d = true then some (.dat (.int (ds.countP fun z => PyData.eqv z d : Nat))) else none
  | _, _ => none
theorem fe_count {P : Pm} {X : Cx} {o e : Expr} {fo fe : Mx Vl} {apos pos : Pos} (hu : X.A.units + 65 < cLine) (ho : FE X P o fo) (he : FE X P e fe) (hK : X.K = P.K := by rfl) (hs : starEach [e] X.env = (false, eval e X.env) :: starEach [] X.env := by rfl)
    (hbase : attributeBase o "count" X.env (eval o X.env) = eval o X.env := by rfl) (hline : (apos.endLine == pos.line) = true := by rfl)
    (hfew : ((backTo pos (starEach [e] X.env)).all (fun x => !x.1) && (backToKw pos (keywordEach [] X.env)).all (fun x => x.1.isSome)
      && decide ([e].length + ([] : List Keyword).length + (if ([] : List Keyword).isEmpty then 0 else 1) < 30)) = true := by rfl) (hplain : (backTo pos (starEach [] X.env)).any (·.1) = false := by rfl) :
    FE X P (.Call (.Attribute o "count" apos) [e] [] pos) (m2 countD fo fe) := by
  refine PE.imp (pe_bm PySem.F.plainAttrs_list PySem.F.slot_list_count PySem.F.type_list_count (mt_cntD hu) ho (pa_cons he pa_nil hs) hbase hfew hline hs hplain) ?_
  rw [hK]
  rintro σ H Q ⟨M, r0, ss, rw, z, rw', I, e, q⟩
  obtain ⟨y, rw1, e1, e⟩ := bnd_some e
  obtain ⟨w, rw2, e2, e⟩ := bnd_some e
  obtain ⟨e3, rfl⟩ := opt_some e
  refine ⟨M, r0, ss, rw, y, _, I, e1, fun v H1 k1 I1 hv => ?_⟩
  unfold countD at e3
  split at e3
  next =>
    rename_i ds d e2'
    split at e3
    next hsd =>
      cases e3
      obtain ⟨p, vs, rfl, h1, h2⟩ := vr_lst hv
      refine ⟨.inl ⟨rfl, vs, SqL.of (mk_le _ H1 _ _ h1)⟩, M, r0, ss, _, _, _, I1, e2, fun u H2 k2 I2 hu => ?_⟩
      have hv2 : DR P.K (hdn (Msk M r0 σ ss) H2) (.ref p) (.list ds) := VR.mono (d := .dat (.list ds)) k2.msk hv
      have hu2 : DR P.K (hdn (Msk M r0 σ ss) H2) u d := hu
      exact ⟨p, u, d, ds, rfl, rfl, dr_dp _ _ (dr_mono (mk_le _ H2) _ _ hv2), dr_dp _ _ (dr_mono (mk_le _ H2) _ _ hu2), hsd.1, hsd.2, q _ H2 (k1.trans k2) I2 (DR.int _)⟩
    next => cases e3
  next => cases e3
end FL
/-! An own exception's __init__ that says super().__init__(text) first. -/
namespace FE
open PySem PySem.Spec PyProof.Rows L2 NdefX
abbrev mw (x : Addr) : Obj := PySem.W.kxs_mw "ValueError.__init__" x
section
variable {X : Cx} {pins : List (Addr × Obj)} {σ : L2.St} {H : Hp} {s : Shared} {a C u : Addr}
/-- the bound __init__, called: the exception's arguments are laid anew -/
theorem call_mw {us : List Value} {Q : Value → Shared → Prop} {E : Value → Shared → Prop} {A : Around} (T : OexC X.K C) (I : Inv X ((u, mw a) :: pins) σ H s) (e : H a = some (exo a C none)) (hl : us.length ≤ sizeLine) (h : ∀ s', Inv X pins σ H s' → Q .none s') :
    wpAny (model X.prog X.w) A (call (.ref u) us) Q E s := by
  obtain ⟨nm, q, N, bs, bm, sn, sub, ab, col, dd, k0, k1, k2, k3, k5, hC, hbm⟩ := T.cls
  obtain ⟨t1, ho⟩ := exo_at I.hok e
  have hu := ClX.pin_at I
  have J0 := ClX.unpin I
  have KC := I.kIn _ _ hC
  obtain ⟨hp, g, d, t, os⟩ := s
  refine wpAny_call (codeAny_of_tree ?_)
  show wpAny _ A.in1 (callAny (.ref u) ⟨us, []⟩) _ _ _
  simp only [callAny]
  refine wpAny_bind (wpAny_load hu ?_)
  simp only [PySem.W.kxs_mw, show (Value.type "method-wrapper" == Value.type "method" || Value.type "method-wrapper" == Value.type "builtin_function_or_method" || Value.type "method-wrapper" == Value.type "method-wrapper") = true by decide, if_true]
  refine PySem.W.KFB.if_so (by decide) ?_
  refine wpAny_bind (PySem.W.check_bound_init F.excBase_ValueError.toExcCallFacts KC ho rfl ?_)
  refine wpAny_bind (wpAny_pure (wpAny_pure ?_))
  refine ⟨plainId_quiet F.excBase_ValueError.init.plain _, codeAny_builtin F.excBase_ValueError.initEntry ?_⟩
  refine PySem.W.exc_init_tree (cls := .ref C) (t0 := t1) (dv := none) (c2 := .none) (c3 := .none) (b4 := .bool false) ho hl fun h' k e' t' => ?_
  have J := J0.write (t' := t) (x := a) (e := a) (o := exo a C none) (by rw [e]; exact True.intro) (.inl rfl) k ⟨_, e'⟩ (exo_ok e')
  have eu : upd H a (exo a C none) = H := by
    funext b
    by_cases hb : b = a
    · rw [hb, upd_same, e]
    · rw [upd_ne hb]
  rw [eu] at J
  exact h _ J
end
/-- what the written part says of such a class and its __init__ -/
structure OxF (K : PySem.W.Frag) (mg : Str → Option Value) (Pg : Program) (f D cc : Addr) (fd : FuncData) (F : NF) : Prop where
  fn : ∃ oc od osl, K.lookup f = some ⟨oc, od, .func fd, osl⟩
  fdE : ∃ dV kV doc pm an ct, fd = PySem.W.fnX F.name F.qual F.params F.body F.scope F.cl dV kV doc pm an (.ref F.c) ct
  cl : F.cl = [(("__class__" : Str), cc)]
  cd : PySem.W.codeIn K (.ref F.c) F.qual = true
  code : ∃ ccl cdd fv ccs file tf, K.lookup F.c = some ⟨ccl, cdd, .fields fv, ccs⟩ ∧ fv[2]? = some (.str file tf) ∧ ((Pg.main.file : Str) == file) = true
  cell : ∃ cl cld csl, K.lookup cc = some ⟨cl, cld, .cell (some (.ref D)), csl⟩
  sup : PySem.W.ks_superIn K D D "__init__" = some (some (.builtin "ValueError.__init__"))
  any : PySem.W.nsIn K cStatics "thirdparty.any" = some none
  oex : OexC K D
  sub : PySem.W.subIn K (.ref D) (.type "ValueError") = some true
  mro : PySem.W.mroIn K D (.ref D) = some true
  ms : (Pg.main.scope.names.lookup ("super" : Str)).isSome = false
  mgs : mg "super" = none
theorem fn_oxi {CX : CXT} {Pg : Program} {w : World} {K : PySem.W.Frag} {mg : Str → Option Value} {base : Heap} {N ps : List Str} {k : Nat} {f D cc : Addr} {fd : FuncData} {F : NF} {sp : Sp} {je : Expr} {rest : List Stmt} {p0 p1 ap cp ep : Pos} {ar : Arg} {te : TE} {t : TS}
    (O : OxF K mg Pg f D cc fd F) (S : NScope N (("self" : Str) :: ps) [("__class__" : Str)] F.scope) (len : ∀ vs H Q E, sp vs H Q E → vs.length = (("self" : Str) :: ps).length)
    (hbody : F.body = .Expr (.Call (.Attribute (.Call (.Name "super" p0) [] [] p1) ("__init__" : Str) ap) [je] [] cp) ep :: rest)
    (hks : F.scope.names.lookup ("super" : Str) = some .globalImplicit) (hp : (F.params.posonlyargs ++ F.params.args).head? = some ar) (har : ar.arg = ("self" : Str))
    (hj : ∀ (A : Around) (outer : List Env) (s : Shared) (H : Hp) (E : XK), PE (ncx CX Pg w K mg base N F f A outer s H E) je te)
    (hr : ∀ (A : Around) (outer : List Env) (s : Shared) (H : Hp) (E : XK), PSs (ncx CX Pg w K mg base N F f A outer s H E) rest t)
    (hsp : ∀ vs H Q E, sp vs H Q E → ∃ a vs', vs = .ref a :: vs' ∧ H a = some (exo a D none) ∧ te (startF N vs [none]) H fun _ H1 => H1 a = some (exo a D none) ∧ t { nx := fun _ H' => Q .non H', rt := Q } (startF N vs [none]) H1)
    (hsw : ∀ env, swapsWith (.Call (.Attribute (.Call (.Name "super" p0) [] [] p1) ("__init__" : Str) ap) [je] [] cp) none ep.line env = pure false := by intro _; rfl)
    (hst : ∀ env, starEach [je] env = (false, eval je env) :: starEach [] env := by intro _; rfl)
    (hmc : ∀ (env : Env), ∃ pl, eval (.Call (.Attribute (.Call (.Name "super" p0) [] [] p1) ("__init__" : Str) ap) [je] [] cp) env = (do
      let ov ← attributeBase (.Call (.Name "super" p0) [] [] p1) "__init__" env (eval (.Call (.Name "super" p0) [] [] p1) env)
      standAt ap.atName
      let (f, first) ← holding [ov] (getMethod ov "__init__" pl)
      callWith cp f first (backTo cp (starEach [je] env)) []) := by intro _; exact ⟨_, rfl⟩) :
    FnOk Pg w K mg base CX (k + 1) f fd (("self" : Str) :: ps) sp := by
  refine ⟨len, fun A outer s H args us vs Q E hroom e0 hb r h => ?_⟩
  have hl := len _ _ _ _ h
  obtain ⟨a, vs', rfl, ha, hte⟩ := hsp _ _ _ _ h
  have bk : ∀ b o, base.get? b = some o → s.heap.get? b = some o := fun b o e => (e0.bs b o e).1
  have KX : K.In s.heap := e0.mod.kin.keeps bk
  have lim : s.heap.NoLimit := e0.mod.nolimit.keeps bk
  obtain ⟨oc, od, osl, lk⟩ := O.fn
  obtain ⟨dV, kV, doc, pm, an, ct, rfl⟩ := O.fdE
  obtain ⟨ccl, cdd, fv, ccs, file, tf, hcode, hfv, hfile⟩ := O.code
  obtain ⟨cl, cld, csl, hcell⟩ := O.cell
  have ccell : s.heap.IsCell cc (some (.ref D)) := ⟨_, KX _ _ hcell, rfl⟩
  have hcn : H cc = none := (e0.bs _ _ (e0.mod.kin _ _ hcell)).2
  have C : CellsAt F.cl [("__class__" : Str)] [none] s.heap H := by
    rw [O.cl]
    refine ⟨rfl, fun y c e => ?_, fun x y c e1 e2 => ?_, fun i y e => ?_⟩
    · by_cases z : y = ("__class__" : Str)
      · subst z
        have e' : some cc = some c := e
        cases e'
        exact ⟨hcn, _, ccell⟩
      · have z' : (y == ("__class__" : Str)) = false := by simpa using z
        simp [List.lookup, z'] at e
    · have one : ∀ {x : Str} {c : Addr}, [(("__class__" : Str), cc)].lookup x = some c → x = ("__class__" : Str) := fun {x c} e => by
        by_cases z : x = ("__class__" : Str)
        · exact z
        · have z' : (x == ("__class__" : Str)) = false := by simpa using z
          simp [List.lookup, z'] at e
      rw [one e1, one e2]
    · have hy : y = ("__class__" : Str) := by
        cases i with
        | zero => exact (Option.some.inj e).symm
        | succ i => simp at e
      subst hy
      refine ⟨cc, rfl, fun v e => ?_⟩
      cases i with
      | zero => cases e
      | succ i => simp at e
  refine codeAny_call_function hroom.depth (KX _ _ lk) rfl S.co S.gen rfl (PySem.W.codeRec_of KX O.cd) (hb _ _ _ _ ?_)
  refine wpAny_newFunctionEnv S.nocell (fun ⟨n, _⟩ hy => S.par n (List.of_mem_zip hy).1) (fun h₁ hns hsb => ⟨lim.fresh _ hsb, ?_⟩) S.kind
  show codeAny _ _ (.func F.body (envF F f s.heap.objs.size)) _ _
  have kp : ∀ b o, s.heap.get? b = some o → h₁.get? b = some o := fun b o e => hsb.extBut b o (Nat.ne_of_lt (Heap.lt_size e)) (Heap.get?_push_of_some _ e)
  have I : Inv (ncx CX Pg w K mg base N F f A outer s H E) [] (startF N (.ref a :: vs') [none]) H { s with heap := h₁, toks := s.toks + ((("self" : Str) :: ps).zip us).length } := inv_startN S hroom.hd e0 hl r C hns kp
  obtain ⟨t1, hoe⟩ := exo_at I.hok ha
  obtain ⟨oD, cdD, hDo, hDt, hDc⟩ : ∃ oD cdD, h₁.get? D = some oD ∧ oD.data = .cls cdD ∧ PySem.W.clsIn K D = some cdD := by
    obtain ⟨nm, q, N', bs, bm, sn, sub, ab, col, dd, k0, k1, k2, k3, k5, hC, hbm⟩ := O.oex.cls
    exact ⟨_, _, I.kIn _ _ hC, rfl, by unfold PySem.W.clsIn; rw [hC] <;> rfl⟩
  have hself : (fun y => (((("self" : Str) :: ps).zip us).reverse.lookup y)) ar.arg = some (.ref a) := by
    rw [har]
    cases r with
    | cons r0 rr =>
      cases r0
      exact zip_look (i := 0) (by
        have nd := S.nd.sublist (List.take_sublist ((("self" : Str) :: ps).length + [("__class__" : Str)].length) N)
        rw [S.pre] at nd
        exact (List.nodup_append.mp nd).1) rfl rfl
  have hCm : PySem.W.Looks (model Pg w) h₁ (mroOf (.ref D)) cdD.mro := fun A Q E s k q => wpAny_bind ((PySem.W.looks_clsIn I.kIn hDc) A _ E s k (wpAny_pure q))
  have hsup := O.sup
  unfold PySem.W.ks_superIn at hsup
  rw [hDc] at hsup
  have hIn : PySem.W.InstAt h₁ a ({ cls := .ref D, data := .fields #[.ref t1, .none, .none, .none, .bool false, .none] } : Obj) D none := ⟨hoe, rfl, rfl, trivial⟩
  refine ks_codeAny_funcAt ?_
  rw [hbody]
  refine ks_wpAt_execs_cons ?_
  refine ks_wpAt_Expr_any ?_ I.quiet (hsw _)
  obtain ⟨pl, hpl⟩ := hmc (envF F f s.heap.objs.size)
  refine ks_wpAt_MethodCall ?_ hpl
  refine ks_wpAt_super_base (f := f) (cc := F.c) hks (S.frk _ (by simp)) rfl rfl (I.kIn _ _ lk) rfl hp rfl (I.kIn _ _ hcode) rfl hfv hfile O.ms ?_
  obtain ⟨mb, hb1, hb2⟩ := I.mod.blt
  refine PySem.W.ks_loadName_global S.kind hks (PySem.Calls.loadGlobal_builtin (I.mod.glob.keeps I.bk) O.mgs (hb1.keeps I.bk) ((hb2 _ (by decide)).trans PyProof.Rows.Boot.«super») ⟨rfl, ?_⟩)
  refine wpAny_loadName_free S.kind (S.frk _ (by simp)) (by show F.cl.lookup _ = _; rw [O.cl]; rfl) ⟨_, I.kIn _ _ hcell, rfl⟩ ?_
  refine wpAny_loadName_local S.kind (by rw [har]; exact S.par _ List.mem_cons_self) hns hself ?_
  refine ks_wpAny_isType_cls hDo hDt ⟨rfl, ?_⟩
  refine ks_wpAny_call_super hDo hDt hoe rfl (fun c z => by cases z) (PySem.W.looks_mroIn I.kIn O.mro) fun h' e kk => ?_
  have I2 : Inv (ncx CX Pg w K mg base N F f A outer s H E) [] (startF N (.ref a :: vs') [none]) H { s with heap := h', toks := s.toks + (((("self" : Str) :: ps).zip us).length) } := I.kept kk
  have hIn2 : PySem.W.InstAt h' a ({ cls := .ref D, data := .fields #[.ref t1, .none, .none, .none, .bool false, .none] } : Obj) D none := ⟨kk _ _ hoe, rfl, rfl, trivial⟩
  refine PySem.W.kxs_getMethod PySem.W.kxs_ValueError e (PySem.W.looks_opaque I2.kIn O.any) (l₀ := cdD.mro) (fun A Q E s k q => wpAny_bind ((PySem.W.looks_clsIn I2.kIn hDc) A _ E s k (wpAny_pure q))) rfl I2.kIn hsup (hIn2.type.andThen (PySem.W.looks_subIn I2.kIn O.sub)) (PySem.W.ks_ne I2.kIn hIn2 hDc) rfl ?_
  have I3 : Inv (ncx CX Pg w K mg base N F f A outer s H E) [(h'.objs.size, mw a)] (startF N (.ref a :: vs') [none]) H { s with heap := h'.push (mw a), toks := s.toks + (((("self" : Str) :: ps).zip us).length) + 1 } :=
    ClX.pin_new (s := { s with heap := h', toks := s.toks + (((("self" : Str) :: ps).zip us).length) }) I2 (fun b o z => Heap.get?_push_of_some _ z) (Nat.le_refl _) (Heap.get?_push_at rfl rfl) (fun v z => by cases z)
  rw [hst]
  refine PySem.W.kxs_callWith (i := "ValueError.__init__") (x := a) (by rfl) (PySem.Calls.evalArgs_plain ?_)
  show wpAny _ _ (spliced ((false, eval je (envF F f s.heap.objs.size)) :: backTo cp (starEach [] (envF F f s.heap.objs.size)))) _ _ _
  refine Calls.spliced_cons (thn ((hj A outer s H E).run _ _ _ _ _ I3 hte) fun u1 s1 ⟨y, H1, I4, r1, ha1, q1⟩ => ?_)
  refine Calls.spliced_nil ⟨ClX.pin_at I4, ?_⟩
  refine call_mw O.oex I4 ha1 (by show 1 ≤ sizeLine; rw [sizeLine_eq]; omega) fun s' I5 => ?_
  refine wpAt_of_wpAny ?_
  refine wpAny_mono ((hr A outer s H E).run [] s' _ H1 _ I5 q1) (fun fl s2 hs => ?_) fun e s2 hs => hs
  have fin : ∀ {σ' : L2.St} {H' : Hp} {v : V} {u : Value}, Inv (ncx CX Pg w K mg base N F f A outer s H E) [] σ' H' s2 → L2.RelV v u → Q v H' → CE outer Pg w H s Q u s2 :=
    fun {σ' H' v u} J rv q => ⟨v, H', J.os, J.bare, J.base, J.hok, rv, q⟩
  cases fl with
  | ret u =>
    obtain ⟨v, σ', H', J, rv, q⟩ := hs
    exact fin J rv q
  | next =>
    obtain ⟨σ', H', J, q⟩ := hs
    exact fin (v := V.non) (u := Value.none) J rfl q
  | brk =>
    obtain ⟨_, _, _, q⟩ := hs
    exact False.elim q
  | cont =>
    obtain ⟨_, _, _, q⟩ := hs
    exact False.elim q
end FE
/-! Exceptions with one field or two: made and raised. -/
namespace FE
open PySem PySem.Spec PyProof.Rows L2 NdefX
open FL (Pm Vl Sl Mx Sx Ro ER VR VRs DR FE FA FJ KeepR Exn ExR Gr FS hdn Msk)
inductive Flat : V → PyData → Prop
  | str (z : Str) : Flat (.str z) (.str z)
  | int (i : Int) : Flat (.int i) (.int i)
theorem Flat.dr {y : V} {d : PyData} (h : Flat y d) (K : PySem.W.Frag) (H : Hp) : DR K H y d := by
  cases h
  · exact .str _
  · exact .int _
def flatB : PyData → Bool
  | .str _ => true
  | .int _ => true
  | _ => false
theorem Flat.of {P : Pm} {H : Hp} {v : V} {d : PyData} (h : VR P H v (.dat d)) (b : flatB d = true) : Flat v d := by
  unfold flatB at b
  split at b
  next z => rw [FL.vr_str h]; exact .str z
  next i => rw [FL.vr_int h]; exact .int i
  next => cases b
/-- the frame of an __init__: the object, a value or two, the class's cell -/
theorem er1 {P : Pm} {H : Hp} {a : Addr} {y : V} {d : PyData} (h : Flat y d) : ER P (fun _ => False) none [some (.ref a), some y, none] H [.no, .vl (.dat d), .no] (0, 0) := by
  refine ⟨rfl, fun i x e => ?_, fun i ds e => ?_, fun i e => ?_, (fun a e => by cases e), fun a z => z.elim, fun i j a ds es e => ?_⟩
  · match i, e with
    | 1, e => cases e; exact ⟨y, rfl, h.dr _ _⟩
    | 0, e => cases e
    | 2, e => cases e
    | i + 3, e => simp at e
  · match i, e with
    | 1, e => cases e
    | 0, e => cases e
    | 2, e => cases e
    | i + 3, e => simp at e
  · match i, e with
    | 1, e => cases e
    | 0, e => cases e
    | 2, e => cases e
    | i + 3, e => simp at e
  · match i, e with
    | 1, e => cases e
    | 0, e => cases e
    | 2, e => cases e
    | i + 3, e => simp at e
theorem er2 {P : Pm} {H : Hp} {a : Addr} {y z : V} {d f : PyData} (h : Flat y d) (g : Flat z f) : ER P (fun _ => False) none [some (.ref a), some y, some z, none] H [.no, .vl (.dat d), .vl (.dat f), .no] (0, 0) := by
  refine ⟨rfl, fun i x e => ?_, fun i ds e => ?_, fun i e => ?_, (fun a e => by cases e), fun a z => z.elim, fun i j a ds es e => ?_⟩
  · match i, e with
    | 1, e => cases e; exact ⟨y, rfl, h.dr _ _⟩
    | 2, e => cases e; exact ⟨z, rfl, g.dr _ _⟩
    | 0, e => cases e
    | 3, e => cases e
    | i + 4, e => simp at e
  · match i, e with
    | 1, e => cases e
    | 0, e => cases e
    | 2, e => cases e
    | 3, e => cases e
    | i + 4, e => simp at e
  · match i, e with
    | 1, e => cases e
    | 0, e => cases e
    | 2, e => cases e
    | 3, e => cases e
    | i + 4, e => simp at e
  · match i, e with
    | 1, e => cases e
    | 0, e => cases e
    | 2, e => cases e
    | 3, e => cases e
    | i + 4, e => simp at e
abbrev ss1 (d : PyData) : List Sl := [.no, .vl (.dat d), .no]
abbrev ss2 (d f : PyData) : List Sl := [.no, .vl (.dat d), .vl (.dat f), .no]
def sp1 (D : Addr) (f1 : Str) (msg : Mx Vl) : Sp := fun vs H Q _ => ∃ a y d, vs = [.ref a, y] ∧ Flat y d ∧ (msg (ss1 d) (0, 0)).isSome = true ∧ H a = some (exo a D none) ∧
  ∀ H1, Same H H1 → ∀ dx, H1 dx = none → dx ≠ a → Q .non (upd (upd H1 dx (exd dx [(f1, y)])) a (exo a D (some dx)))
def sp2 (D : Addr) (f1 f2 : Str) (msg : Mx Vl) : Sp := fun vs H Q _ => ∃ a y z d f, vs = [.ref a, y, z] ∧ Flat y d ∧ Flat z f ∧ (msg (ss2 d f) (0, 0)).isSome = true ∧ H a = some (exo a D none) ∧
  ∀ H1, Same H H1 → ∀ dx, H1 dx = none → dx ≠ a → Q .non (upd (upd (upd H1 dx (exd dx [(f1, y)])) a (exo a D (some dx))) dx (exd dx [(f2, z), (f1, y)]))
section
variable {CX : CXT} {Pg : Program} {w : World} {K : PySem.W.Frag} {mg : Str → Option Value} {base : Heap} {k : Nat} {f D cc : Addr} {fd : FuncData} {F : NF} {P : Pm} {p0 p1 ap cp ep q1 q2 q3 q4 r1 r2 r3 r4 : Pos} {ar : Arg} {je : Expr} {f1 f2 x1 x2 : Str} {msg : Mx Vl}
theorem same_keep {H H1 : Hp} (h : KeepR none H H1) : Same H H1 := fun b o e => h b o e (by simp)
theorem fn_ox1 (O : OxF K mg Pg f D cc fd F) (S : NScope [("self" : Str), x1, ("__class__" : Str)] [("self" : Str), x1] [("__class__" : Str)] F.scope)
    (hbody : F.body = [.Expr (.Call (.Attribute (.Call (.Name "super" p0) [] [] p1) ("__init__" : Str) ap) [je] [] cp) ep, .Assign [.Attribute (.Name "self" q1) f1 q2] (.Name x1 q3) q4])
    (hks : F.scope.names.lookup ("super" : Str) = some .globalImplicit) (hp : (F.params.posonlyargs ++ F.params.args).head? = some ar) (har : ar.arg = ("self" : Str)) (hfi : PySem.W.findIn K (.ref D) f1 = some none)
    (hd1 : (x1 == ("__debug__" : Str)) = false) (hd2 : (x1 == ("__classdict__" : Str)) = false)
    (hj : ∀ (A : Around) (outer : List Env) (s : Shared) (H : Hp) (E : XK), FE (ncx CX Pg w K mg base [("self" : Str), x1, ("__class__" : Str)] F f A outer s H E) P je msg)
    (hsw : ∀ env, swapsWith (.Call (.Attribute (.Call (.Name "super" p0) [] [] p1) ("__init__" : Str) ap) [je] [] cp) none ep.line env = pure false := by intro _; rfl)
    (hst : ∀ env, starEach [je] env = (false, eval je env) :: starEach [] env := by intro _; rfl)
    (hmc : ∀ (env : Env), ∃ pl, eval (.Call (.Attribute (.Call (.Name "super" p0) [] [] p1) ("__init__" : Str) ap) [je] [] cp) env = (do
      let ov ← attributeBase (.Call (.Name "super" p0) [] [] p1) ("__init__" : Str) env (eval (.Call (.Name "super" p0) [] [] p1) env)
      standAt ap.atName
      let (f, first) ← holding [ov] (getMethod ov ("__init__" : Str) pl)
      callWith cp f first (backTo cp (starEach [je] env)) []) := by intro _; exact ⟨_, rfl⟩) :
    FnOk Pg w K mg base CX (k + 1) f fd [("self" : Str), x1] (sp1 D f1 msg) := by
  refine fn_oxi (N := [("self" : Str), x1, ("__class__" : Str)]) (te := FL.tE P msg) (t := tOst K f1 (tVar 0) (tVar 1)) O S (fun vs H Q E h => ?_) hbody hks hp har hj (fun A outer s H E => ?_) (fun vs H Q E h => ?_) hsw hst hmc
  · obtain ⟨a, y, d, rfl, _⟩ := h; rfl
  · refine pss_one (ps_ost (pe_var (i := 0) rfl (.inl (S.par _ List.mem_cons_self)) rfl rfl) (pe_var (i := 1) rfl (.inl (S.par _ (List.mem_cons_of_mem _ List.mem_cons_self))) hd1 hd2) rfl)
  · obtain ⟨a, y, d, rfl, hy, hm, ha, q⟩ := h
    refine ⟨a, [y], rfl, ha, ?_⟩
    obtain ⟨⟨x, rw'⟩, em⟩ := Option.isSome_iff_exists.mp hm
    refine ⟨_, none, _, _, x, rw', er1 (a := a) hy, em, fun v H1 k1 I1 hv => ⟨k1 _ _ ha (by simp), ?_⟩⟩
    refine ⟨y, rfl, .ref a, rfl, a, D, rfl, O.oex, hfi, .inl ⟨k1 _ _ ha (by simp), fun dx n ne => q H1 (same_keep k1) dx n ne⟩⟩
theorem fn_ox2 (O : OxF K mg Pg f D cc fd F) (S : NScope [("self" : Str), x1, x2, ("__class__" : Str)] [("self" : Str), x1, x2] [("__class__" : Str)] F.scope)
    (hbody : F.body = [.Expr (.Call (.Attribute (.Call (.Name "super" p0) [] [] p1) ("__init__" : Str) ap) [je] [] cp) ep, .Assign [.Attribute (.Name "self" q1) f1 q2] (.Name x1 q3) q4, .Assign [.Attribute (.Name "self" r1) f2 r2] (.Name x2 r3) r4])
    (hks : F.scope.names.lookup ("super" : Str) = some .globalImplicit) (hp : (F.params.posonlyargs ++ F.params.args).head? = some ar) (har : ar.arg = ("self" : Str)) (hfi : PySem.W.findIn K (.ref D) f1 = some none) (hfi2 : PySem.W.findIn K (.ref D) f2 = some none)
    (hd1 : (x1 == ("__debug__" : Str)) = false) (hd2 : (x1 == ("__classdict__" : Str)) = false) (hd3 : (x2 == ("__debug__" : Str)) = false) (hd4 : (x2 == ("__classdict__" : Str)) = false)
    (hj : ∀ (A : Around) (outer : List Env) (s : Shared) (H : Hp) (E : XK), FE (ncx CX Pg w K mg base [("self" : Str), x1, x2, ("__class__" : Str)] F f A outer s H E) P je msg)
    (hsw : ∀ env, swapsWith (.Call (.Attribute (.Call (.Name "super" p0) [] [] p1) ("__init__" : Str) ap) [je] [] cp) none ep.line env = pure false := by intro _; rfl)
    (hst : ∀ env, starEach [je] env = (false, eval je env) :: starEach [] env := by intro _; rfl)
    (hmc : ∀ (env : Env), ∃ pl, eval (.Call (.Attribute (.Call (.Name "super" p0) [] [] p1) ("__init__" : Str) ap) [je] [] cp) env = (do
      let ov ← attributeBase (.Call (.Name "super" p0) [] [] p1) ("__init__" : Str) env (eval (.Call (.Name "super" p0) [] [] p1) env)
      standAt ap.atName
      let (f, first) ← holding [ov] (getMethod ov ("__init__" : Str) pl)
      callWith cp f first (backTo cp (starEach [je] env)) []) := by intro _; exact ⟨_, rfl⟩) :
    FnOk Pg w K mg base CX (k + 1) f fd [("self" : Str), x1, x2] (sp2 D f1 f2 msg) := by
  refine fn_oxi (N := [("self" : Str), x1, x2, ("__class__" : Str)]) (te := FL.tE P msg) (t := tSeq (tOst K f1 (tVar 0) (tVar 1)) (tOst K f2 (tVar 0) (tVar 2))) O S (fun vs H Q E h => ?_) hbody hks hp har hj (fun A outer s H E => ?_) (fun vs H Q E h => ?_) hsw hst hmc
  · obtain ⟨a, y, z, d, f, rfl, _⟩ := h; rfl
  · refine pss_cons (ps_ost (pe_var (i := 0) rfl (.inl (S.par _ List.mem_cons_self)) rfl rfl) (pe_var (i := 1) rfl (.inl (S.par _ (List.mem_cons_of_mem _ List.mem_cons_self))) hd1 hd2) rfl) (pss_one (ps_ost (pe_var (i := 0) rfl (.inl (S.par _ List.mem_cons_self)) rfl rfl) (pe_var (i := 2) rfl (.inl (S.par _ (List.mem_cons_of_mem _ (List.mem_cons_of_mem _ List.mem_cons_self)))) hd3 hd4) rfl))
  · obtain ⟨a, y, z, d, f, rfl, hy, hz, hm, ha, q⟩ := h
    refine ⟨a, [y, z], rfl, ha, ?_⟩
    obtain ⟨⟨x, rw'⟩, em⟩ := Option.isSome_iff_exists.mp hm
    refine ⟨_, none, _, _, x, rw', er2 (a := a) hy hz, em, fun v H1 k1 I1 hv => ⟨k1 _ _ ha (by simp), ?_⟩⟩
    refine ⟨y, rfl, .ref a, rfl, a, D, rfl, O.oex, hfi, .inl ⟨k1 _ _ ha (by simp), fun dx n ne => ?_⟩⟩
    refine ⟨z, rfl, .ref a, rfl, a, D, rfl, O.oex, hfi2, .inr ⟨dx, [(f1, y)], upd_same, by rw [upd_ne ne, upd_same], (by show 1 ≤ 900; decide), q H1 (same_keep k1) dx n ne⟩⟩
end
end FE
namespace FE
open PySem PySem.Spec PyProof.Rows L2 NdefX
open FL (Pm Vl Sl Mx Sx Ro ER VR VRs DR FE FA FJ KeepR Exn ExR Gr FS hdn Msk)
/-! ### raised -/
/-- what a class of exceptions with one field says -/
structure Ox1 (Pg : Program) (w : World) (K : PySem.W.Frag) (mg : Str → Option Value) (base : Heap) (k : Nat) (x x1 f1 : Str) (C : Addr) (msg : Mx Vl) : Prop where
  ex : ∃ fI fd, FnOk Pg w K mg base CX0 k fI fd [("self" : Str), x1] (sp1 C f1 msg) ∧ PySem.W.findIn K (.ref C) "__init__" = some (some (.ref fI)) ∧ PySem.W.typeIn K (.ref fI) = some (.type "function") ∧ Binds K fd [("self" : Str), x1] []
  oex : OexC K C
  g : mg x = some (.ref C)
structure Ox2 (Pg : Program) (w : World) (K : PySem.W.Frag) (mg : Str → Option Value) (base : Heap) (k : Nat) (x x1 x2 f1 f2 : Str) (C : Addr) (msg : Mx Vl) : Prop where
  ex : ∃ fI fd, FnOk Pg w K mg base CX0 k fI fd [("self" : Str), x1, x2] (sp2 C f1 f2 msg) ∧ PySem.W.findIn K (.ref C) "__init__" = some (some (.ref fI)) ∧ PySem.W.typeIn K (.ref fI) = some (.type "function") ∧ Binds K fd [("self" : Str), x1, x2] []
  oex : OexC K C
  g : mg x = some (.ref C)
def sRaise1 (c : Nat) (f1 : Str) (msg m : Mx Vl) : Sx := fun ss rw => match m ss rw with
  | some (.dat d, rw1) => if flatB d = true ∧ (msg (ss1 d) (0, 0)).isSome = true then some (.er ⟨c, [(f1, d)]⟩ ss rw1) else none
  | _ => none
def sRaise2 (c : Nat) (f1 f2 : Str) (msg : Mx Vl) (ma : Mx (List Vl)) : Sx := fun ss rw => match ma ss rw with
  | some ([.dat d, .dat f], rw1) => if flatB d = true ∧ flatB f = true ∧ (msg (ss2 d f) (0, 0)).isSome = true then some (.er ⟨c, [(f2, f), (f1, d)]⟩ ss rw1) else none
  | _ => none
/-- the heap behind such a making holds one thing more: the fields -/
theorem made_same {H1 H2 : Hp} {a dx : Addr} {o : HO} (ha : H1 a = none) (s : Same (upd H1 a o) H2) (n : H2 dx = none) (ne : dx ≠ a) (G : Hp) (hG : ∀ b, b ≠ a → b ≠ dx → G b = H2 b) : H1 dx = none ∧ Same H1 G := by
  have h0 : H1 dx = none := by
    cases z : H1 dx with
    | none => rfl
    | some u =>
      have := s dx u (by rw [upd_ne ne]; exact z)
      rw [n] at this
      cases this
  refine ⟨h0, fun b u z => ?_⟩
  have hba : b ≠ a := fun e => by rw [e, ha] at z; cases z
  have hbd : b ≠ dx := fun e => by rw [e, h0] at z; cases z
  rw [hG b hba hbd]
  exact s b u (by rw [upd_ne hba]; exact z)
section
variable {P : Pm} {X : Cx} {fx : Nat → Addr} {W : WX} {k : Nat}
theorem fs_raise1 {c : Nat} {x x1 f1 : Str} {e : Expr} {msg m : Mx Vl} {p pos pos' : Pos} (T : Ox1 X.prog X.w X.K X.mg X.base k x x1 f1 (fx c) msg) (hr : Room (k + 1) X.A) (tk : Takes X W) (he : FE X P e m) (hc : X.calm = true := by rfl) (hg : Gl X x := by rfl)
    (hs : starEach [e] X.env = (false, eval e X.env) :: starEach [] X.env := by rfl) (hpl : (backTo pos' (starEach [] X.env)).any (·.1) = false := by rfl) (hdb : (x == ("__debug__" : Str)) = false := by decide) :
    FS X P fx W (.Raise (some (.Call (.Name x p) [e] [] pos')) none pos) (sRaise1 c f1 msg m) := by
  obtain ⟨fI, fd, F1, iC, tI, hb⟩ := T.ex
  refine FL.PS.imp (ps_raise hc tk (pmk_oex T.oex iC tI F1 hr hb .nil pass0 hg T.g (FL.fa_cons he FL.fa_nil hs) hdb hs hpl)) ?_
  rintro D σ H ⟨M, r, ss, rw, o, I, e, q⟩
  unfold sRaise1 at e
  split at e
  next d rw1 e1 =>
    split at e
    next hb2 =>
      cases e
      have em : FL.mCons m FL.mNil ss rw = some ([.dat d], rw1) := by
        unfold FL.mCons FL.bnd
        rw [e1]
        rfl
      refine ⟨M, r, ss, rw, [.dat d], rw1, I, em, fun vs H1 k1 I1 hv => ?_⟩
      cases hv with
      | cons hv hn =>
        cases hn
        have fl := Flat.of hv hb2.1
        refine ⟨by show 1 ≤ 1000; decide, fun a ha => ⟨a, _, d, rfl, fl, hb2.2, upd_same, fun H2 s2 dx n ne => ?_⟩⟩
        obtain ⟨n1, sm⟩ := made_same ha s2 n ne (upd (del (upd (upd H2 dx (exd dx [(f1, _)])) a (exo a (fx c) (some dx))) a) dx (.xd [(f1, _)])) fun b hba hbd => by rw [upd_ne hbd, del_ne hba, upd_ne hba, upd_ne hbd]
        refine ⟨rfl, dx, _, upd_same, by rw [upd_ne ne, upd_same], n1, ?_⟩
        exact q σ _ _ _ (Gr.ofR (k1.trans (KeepR.of sm)) (I1.grow sm)) (I1.grow sm) ⟨rfl, .inr ⟨dx, _, by simp, rfl, upd_same, .cons ⟨rfl, fl.dr _ _⟩ .nil⟩⟩
    next => cases e
  next => cases e
end
end FE
/-! Exceptions with fields: raised with two, walked past, caught, asked. -/
namespace FE
open PySem PySem.Spec PyProof.Rows L2 NdefX
open FL (Pm Vl Sl Mx Sx Ro ER VR VRs DR FE FA FJ KeepR Exn ExR Gr FS FSs hdn Msk)
section
variable {P : Pm} {X : Cx} {fx : Nat → Addr} {W : WX} {k : Nat}
theorem fs_raise2 {c : Nat} {x x1 x2 f1 f2 : Str} {e e' : Expr} {msg : Mx Vl} {ma : Mx (List Vl)} {p pos pos' : Pos} (T : Ox2 X.prog X.w X.K X.mg X.base k x x1 x2 f1 f2 (fx c) msg) (hr : Room (k + 1) X.A) (tk : Takes X W) (he : FA X P [e, e'] ma) (hc : X.calm = true := by rfl) (hg : Gl X x := by rfl)
    (hs : starEach [e, e'] X.env = (false, eval e X.env) :: starEach [e'] X.env := by rfl) (hpl : (backTo pos' (starEach [e'] X.env)).any (·.1) = false := by rfl) (hdb : (x == ("__debug__" : Str)) = false := by decide) :
    FS X P fx W (.Raise (some (.Call (.Name x p) [e, e'] [] pos')) none pos) (sRaise2 c f1 f2 msg ma) := by
  obtain ⟨fI, fd, F1, iC, tI, hb⟩ := T.ex
  refine FL.PS.imp (ps_raise hc tk (pmk_oex T.oex iC tI F1 hr hb .nil pass0 hg T.g he hdb hs hpl)) ?_
  rintro D σ H ⟨M, r, ss, rw, o, I, e, q⟩
  unfold sRaise2 at e
  split at e
  next d f rw1 e1 =>
    split at e
    next hb2 =>
      cases e
      refine ⟨M, r, ss, rw, [.dat d, .dat f], rw1, I, e1, fun vs H1 k1 I1 hv => ?_⟩
      cases hv with
      | cons hv hn =>
        cases hn with
        | cons hv2 hn =>
          cases hn
          have fl := Flat.of hv hb2.1
          have fl2 := Flat.of hv2 hb2.2.1
          refine ⟨by show 2 ≤ 1000; decide, fun a ha => ⟨a, _, _, d, f, rfl, fl, fl2, hb2.2.2, upd_same, fun H2 s2 dx n ne => ?_⟩⟩
          obtain ⟨n1, sm⟩ := made_same ha s2 n ne (upd (del (upd (upd (upd H2 dx (exd dx [(f1, _)])) a (exo a (fx c) (some dx))) dx (exd dx [(f2, _), (f1, _)])) a) dx (.xd [(f2, _), (f1, _)])) fun b hba hbd => by rw [upd_ne hbd, del_ne hba, upd_ne hbd, upd_ne hba, upd_ne hbd]
          refine ⟨rfl, dx, _, by rw [upd_ne (Ne.symm ne), upd_same], upd_same, n1, ?_⟩
          exact q σ _ _ _ (Gr.ofR (k1.trans (KeepR.of sm)) (I1.grow sm)) (I1.grow sm) ⟨rfl, .inr ⟨dx, _, by simp, rfl, upd_same, .cons ⟨rfl, fl2.dr _ _⟩ (.cons ⟨rfl, fl.dr _ _⟩ .nil)⟩⟩
    next => cases e
  next => cases e
end
/-! ### isinstance and a field, in the suite -/
def rIsD (K : PySem.W.Frag) (D a : Addr) (d : Option Addr) : List V → Hp → VK → Prop := fun xs H Q => ∃ (c : V) (cv : Value) (b : Bool) (dd : Addr) (fs : List (Str × V)), xs = [.ref a, c] ∧ (∀ u, RelV c u → u = cv) ∧ d = some dd ∧ H dd = some (.xd fs) ∧ PySem.W.kitOne K (.ref D) cv = some b ∧ Q (.bl b) H
theorem call_isD {X : Cx} {a D : Addr} {oe : Obj} {d : Option Addr} {pn : List (Addr × Obj)} (C : ExcC X.K D) (hz : Zc (.ref D) d oe) (hf : ∃ vs, oe.data = .fields vs) : CallR (X.suite a ((a, oe) :: pn)) (.builtin "isinstance") (rIsD X.K D a d) := by
  intro pins s σ H xs us Q I r h
  obtain ⟨c, cv, b, dd, fs, rfl, hcv, rfl, ea, e, q⟩ := h
  cases r with
  | cons rx rr =>
    cases rr with
    | cons rt rr =>
      cases rr
      cases rx
      have ec := hcv _ rt
      subst ec
      obtain ⟨hget, _⟩ := I.pin (a, oe) (List.mem_append.mpr (.inl List.mem_cons_self))
      obtain ⟨vs, hv⟩ := hf
      have hx : ObjOk X.prog X.w H s.heap dd (.xd fs) := I.hok dd _ ea
      obtain ⟨mA, hns, hr⟩ := hx
      obtain ⟨od, ho, hl⟩ := lookIn_ns hns
      have J : PySem.W.InstAt s.heap a oe D (some od) := ⟨hget, hz.1, by unfold PySem.W.notCls; rw [hv] <;> rfl, by rw [hz.2]; exact ho⟩
      have cl : (PySem.W.clsIn X.K D).isSome = true := by
        obtain ⟨cd, h1, _⟩ := PySem.W.any_some C.hd
        rw [h1]; rfl
      exact PySem.W.kia_one (PySem.W.kitx_exc cl C.hg C.hk C.hs C.ha C.hn C.ht C.hm) I.kIn J e (fun z => nomatch z) fun tk => ⟨.bl b, H, I.kept (t' := tk) fun _ _ z => z, rfl, q⟩
/-- what the suite knows: e in its slot, its fields -/
def GE (i : Nat) (a : Addr) (d : Option Addr) (σ : L2.St) (H : Hp) : Prop := σ[i]? = some (some (.ref a)) ∧ ∃ dd fs, d = some dd ∧ H dd = some (.xd fs)
def tT0 (G : L2.St → Hp → Prop) (b : Bool) : TT := fun σ H Q => G σ H ∧ Q b H
section
variable {X : Cx} {a D : Addr} {oe : Obj} {d : Option Addr} {pn : List (Addr × Obj)} {i : Nat} {x n : Str} {G : L2.St → Hp → Prop}
theorem p0_not {e : Expr} {p : Pos} {b : Bool} (h : PT X e (tT0 G b)) : PT X (.UnaryOp .Not e p) (tT0 G (!b)) := FL.PT.imp (pt_not h) fun σ H Q ⟨g, q⟩ => ⟨g, q⟩
theorem p0_or1 {e : Expr} {p : Pos} {b : Bool} (h : PT X e (tT0 G b)) : PW X (.BoolOp .Or [e] p) (tT0 G b) := pw_or1 h
theorem p0_or {e e2 : Expr} {es : List Expr} {p : Pos} {b c : Bool} (h : PT X e (tT0 G b)) (h2 : PW X (.BoolOp .Or (e2 :: es) p) (tT0 G c)) : PW X (.BoolOp .Or (e :: e2 :: es) p) (tT0 G (b || c)) := FL.PW.imp (pw_or h h2) fun σ H Q ⟨g, q⟩ => ⟨g, by
  cases b
  · exact ⟨g, q⟩
  · exact q⟩
/-- isinstance(e, a class of the program) -/
theorem p0_isC {C2 : Addr} {x2 : Str} {b : Bool} {p p1 p2 pos : Pos} (T : ExcC X.K D) (hz : Zc (.ref D) d oe) (hf : ∃ vs, oe.data = .fields vs) (hv : PE (X.suite a ((a, oe) :: pn)) (.Name x p1) (tVar i))
    (hm : X.mg "isinstance" = none) (g2 : X.mg x2 = some (.ref C2)) (k : PySem.W.kitOne X.K (.ref D) (.ref C2) = some b) (hg : Gl X "isinstance" := by rfl) (hg2 : Gl X x2 := by rfl) (hd2 : (x2 == ("__debug__" : Str)) = false := by decide)
    (h1 : starEach [.Name x p1, .Name x2 p2] X.env = (false, eval (.Name x p1) X.env) :: starEach [.Name x2 p2] X.env := by rfl) (h2 : starEach [.Name x2 p2] X.env = (false, eval (.Name x2 p2) X.env) :: starEach [] X.env := by rfl)
    (hpl : (backTo pos (starEach [.Name x2 p2] X.env)).any (·.1) = false := by rfl) : PT (X.suite a ((a, oe) :: pn)) (.Call (.Name "isinstance" p) [.Name x p1, .Name x2 p2] [] pos) (tT0 (GE i a d) b) := by
  refine FL.PT.imp (pt_val (pe_callB (call_isD T hz hf) hg hm (by decide +kernel) (pa_cons hv (pa_cons (pe_glob (v := .ref C2) hg2 g2 rfl hd2) pa_nil h2) h1) (by decide) (by decide) h1 hpl)) ?_
  rintro σ H Q ⟨⟨g, dd, fs, e1, e2⟩, q⟩
  exact ⟨_, g, .ref C2, .ref C2, b, dd, fs, rfl, fun u hu => hu, e1, e2, k, b, rfl, q⟩
end
end FE
/-! for over what may raise; try .. except with a suite that goes on. -/
namespace FL
open PySem L2
section
variable {P : Pm} {X : Cx} {fx : Nat → Addr} {W : WX}
/-- the turns of a for, its items in hand -/
theorem for_core {t : TG} {g : PyData → List Sl → Option (List Sl)} {b : Sx} {vs : List Nat} (hg : GOk P t g vs) {D : Ends} {σ : St} {H H1 : Hp} {M : Addr → Prop} {r : Option Addr} {ss : List Sl} {rw1 : Ro} {o : Ou} {xs : List PyData} {J : It}
    (e : forGo g b xs ss rw1 = some o) (q : OuP P fx W M r σ H ss D o) (k1 : KeepR r H H1) (I1 : ER P M r σ H1 ss rw1) (wk : Wlk P (Msk M r σ ss) H1 J xs) :
    ∃ W' : Nat → Nat → St → Hp → Prop, (∃ m, W' 0 m σ H1) ∧ ∀ i m σ H, W' i m σ H →
      (J.stop i H ∧ D.nx σ H) ∨ (J.go i H ∧ ∃ N : St → Hp → Prop, (∀ σ' H', N σ' H' → ∃ m', m' < m ∧ W' (i + 1) m' σ' H') ∧ ∀ x H', J.yld i H x H' → t x σ H' fun σ2 H2 => tS P fx W b { D with nx := N, ct := N, bk := D.nx } σ2 H2) := by
  have q1 := OuP.after (Gr.ofR (ss := ss) k1 I1) q
  -- how the data ahead is seen later
  have seen : ∀ {σ2 : St} {H2 : Hp} {ss2 : List Sl} {rw2 : Ro}, Gr r σ H1 ss σ2 H2 ss2 → ER P M r σ2 H2 ss2 rw2 → Same (hdn (Msk M r σ ss) H1) (hdn (Msk M r σ2 ss2) H2) := fun {σ2 H2 ss2 rw2} g I2 => mk_same fun b o n h => by
    have nr : r ≠ some b := fun z => n (.inr (.inl z))
    have no : ¬ Own σ ss b := fun z => n (.inr (.inr z))
    refine ⟨fun z => ?_, g.keep b o h nr no⟩
    rcases z with z | z | z
    · exact n (.inl z)
    · exact n (.inr (.inl z))
    · rcases g.own b z with z | z
      · exact no z
      · rw [z] at h; cases h
  let Pv : Nat → St → Hp → Prop := fun i σ2 H2 => ∃ ss2 rw2, Gr r σ H1 ss σ2 H2 ss2 ∧ ER P M r σ2 H2 ss2 rw2 ∧ forGo g b (xs.drop i) ss2 rw2 = some o
  have pg : ∀ {i : Nat} {σ2 : St} {H2 : Hp}, Pv i σ2 H2 → ∃ S1, Same (hdn (Msk M r σ ss) H1) (hdn S1 H2) ∧ ∀ a, S1 a → H2 a ≠ none := fun {i σ2 H2} ⟨ss2, rw2, g2, I2, _⟩ => ⟨_, seen g2 I2, I2.alloc⟩
  have Wk : Walk J xs.length (fun H2 => ∃ S1, Same (hdn (Msk M r σ ss) H1) (hdn S1 H2) ∧ ∀ a, S1 a → H2 a ≠ none) (fun i H2 x H3 => Same H2 H3 ∧ ∃ d, xs[i]? = some d ∧ ∀ S1, Same (hdn (Msk M r σ ss) H1) (hdn S1 H2) → (∀ a, S1 a → H2 a ≠ none) → DR P.K (hdn S1 H3) x d) := by
    refine ⟨fun i H2 hi ⟨S1, h1, h2⟩ => ((wk S1 H2 h1 h2).1 i hi).1, fun H2 ⟨S1, h1, h2⟩ => (wk S1 H2 h1 h2).2, fun i H2 x H3 hi ⟨S1, h1, h2⟩ y => ?_⟩
    obtain ⟨s, d, g1, g2⟩ := ((wk S1 H2 h1 h2).1 i hi).2 x H3 y
    refine ⟨s, d, g1, fun S2 s2 a2 => ?_⟩
    obtain ⟨_, d', g1', g2'⟩ := ((wk S2 H2 s2 a2).1 i hi).2 x H3 y
    rw [g1] at g1'
    cases g1'
    exact g2'
  refine for_it Wk Pv ⟨ss, rw1, Gr.refl, I1, e⟩ (fun i σ2 H2 _ p => pg p) ?_ ?_
  · rintro i x σ2 H2 H3 hi ⟨ss2, rw2, g2, I2, e2⟩ ⟨s3, d, hd, hx⟩
    have hx' := hx _ (seen g2 I2) I2.alloc
    have I3 := I2.grow s3
    have g3 : Gr r σ2 H2 ss2 σ2 H3 ss2 := Gr.ofR (KeepR.of s3) I3
    rw [List.drop_eq_getElem_cons hi] at e2
    have ed : xs[i] = d := by
      rw [List.getElem?_eq_getElem hi] at hd
      exact Option.some.inj hd
    rw [ed] at e2
    unfold forGo at e2
    split at e2
    next => cases e2
    next ss3 h3 =>
      refine hg M r σ2 H3 ss2 rw2 x d ss3 _ I3 hx' h3 fun σ3 o3 I4 w3 => ?_
      have g4 : Gr r σ H1 ss σ3 H3 ss3 := (g2.trans g3).trans (Gr.out0 w3)
      split at e2
      next ss5 rw5 h5 => exact ⟨M, r, ss3, rw2, _, I4, h5, fun σ5 H5 g5 I5 => ⟨ss5, rw5, g4.trans g5, I5, e2⟩⟩
      next ss5 rw5 h5 => exact ⟨M, r, ss3, rw2, _, I4, h5, fun σ5 H5 g5 I5 => ⟨ss5, rw5, g4.trans g5, I5, e2⟩⟩
      next ss5 rw5 h5 =>
        cases e2
        exact ⟨M, r, ss3, rw2, _, I4, h5, fun σ5 H5 g5 I5 => q1 σ5 H5 (g4.trans g5) I5⟩
      next n1 n2 n3 =>
        refine ⟨M, r, ss3, rw2, o, I4, e2, ?_⟩
        have q4 := OuP.after g4 q1
        cases o with
        | nx a b => exact absurd e2 (n1 a b)
        | ct a b => exact absurd e2 (n2 a b)
        | bk a b => exact absurd e2 (n3 a b)
        | rt x c => exact q4
        | rl x c => exact q4
        | er x a b => exact q4
  · rintro σ2 H2 ⟨ss2, rw2, g2, I2, e2⟩
    rw [List.drop_length] at e2
    unfold forGo at e2
    cases e2
    exact q1 σ2 H2 g2 I2
/-- for .. in enumerate(a call that may raise) -/
def sForE (mx : Mx Res) (g : PyData → List Sl → Option (List Sl)) (b : Sx) : Sx := fun ss rw => match mx ss rw with
  | some (.ok (.dat (.list ds)), rw1) => forGo g b ((ds.zipIdx 0).map fun p => .tuple [.int (p.2 : Nat), p.1]) ss rw1
  | some (.er ex, rw1) => some (.er ex ss rw1)
  | _ => none
theorem fs_forE {a : Expr} {body : List Stmt} {mx : Mx Res} {t : TG} {g : PyData → List Sl → Option (List Sl)} {b : Sx} {vs : List Nat} {p pos ipos tpos : Pos} {elts : List Expr} {kk : Nat} (ha : PE X a (tEX P fx W mx)) (hm : X.mg "enumerate" = none) (hgp : PG X (.Tuple elts kk tpos) t) (hg : GOk P t g vs) (hb : FSs X P fx W body b)
    (hp : PassesOwn (model X.prog X.w) X.A X.env X.xe) (hK : X.K = P.K := by rfl) (hc : X.calm = true := by rfl) (hgl : Gl X "enumerate" := by rfl) (hs : starEach [a] X.env = [(false, eval a X.env)] := by rfl) (hf : ∀ x, foldedSetIterable (.Call (.Name "enumerate" p) [a] [] ipos) X.env x = pure x := by intro _; rfl) :
    FS X P fx W (.For (.Tuple elts kk tpos) (.Call (.Name "enumerate" p) [a] [] ipos) body [] pos) (sForE mx g b) := by
  refine PS.imp (ps_for hp hc (pi_enum hgl hm (pa_cons ha pa_nil hs) hs) hgp hb hf) ?_
  rw [hK]
  rintro D σ H ⟨M, r, ss, rw, o, I, e, q⟩
  unfold sForE at e
  split at e
  next ds rw1 e1 =>
    refine ⟨M, r, ss, rw, _, rw1, I, e1, fun v H1 k1 I1 hv => ?_⟩
    obtain ⟨p, vs, rfl, h1, h2⟩ := vr_lst hv
    exact ⟨p, vs, rfl, SqL.of (mk_le _ H1 _ _ h1), for_core hg e q k1 I1 (wlk_enum (SqL.of h1) h2)⟩
  next ex rw1 e1 =>
    cases e
    exact ⟨M, r, ss, rw, _, rw1, I, e1, fun cls d H1 k1 I1 hx => q σ cls d H1 (Gr.ofR k1 I1) I1 hx⟩
  next => cases e
end
end FL
/-! try .. except as e: a field of e is put on a list, and on it goes. -/
namespace FL
open PySem L2
section
variable {P : Pm} {X : Cx} {fx : Nat → Addr} {W : WX}
def sTryA (i j c0 : Nat) (f : Str) (mb : Sx) : Sx := fun ss rw => match mb ss rw with
  | some (.er ex ss1 rw1) => if noAt ss1 i = true ∧ i ≠ j ∧ ex.c = c0 then (match ex.fs.lookup f, ss1[j]? with
    | some d, some (.own ds) => if FE.flatB d = true ∧ ds.length < 100000 then some (.nx (ss1.set j (.own (ds ++ [d]))) rw1) else none
    | _, _ => none) else none
  | o => o
/-- what the suite is handed, and does -/
def tSuiteA (i j : Nat) (f : Str) (a : Addr) (d : Option Addr) : TS := fun D σ H => ∃ dd fs v p us, σ[i]? = some (some (.ref a)) ∧ d = some dd ∧ H dd = some (.xd fs) ∧ fs.lookup f = some v ∧ σ[j]? = some (some (.ref p)) ∧ H p = some (.lst us) ∧ us.length < sizeLine ∧
  D.nx σ (upd H p (.lst (us ++ [v])))
theorem lookup_pair {K : PySem.W.Frag} {H : Hp} {f : Str} : ∀ {vs : List (Str × V)} {fs : List (Str × PyData)} {d : PyData}, Paired (fun (p : Str × V) (q : Str × PyData) => p.1 = q.1 ∧ DR K H p.2 q.2) vs fs → fs.lookup f = some d → ∃ v, vs.lookup f = some v ∧ DR K H v d
  | _, _, d, .nil, h => by cases h
  | _, _, d, .cons (a := p) (b := q) hp hr, h => by
    obtain ⟨n, y⟩ := p
    obtain ⟨n', y'⟩ := q
    obtain ⟨e, dr⟩ := hp
    have e : n = n' := e
    subst e
    by_cases z : f = n
    · subst z
      simp [List.lookup] at h
      subst h
      exact ⟨y, by simp [List.lookup], dr⟩
    · have z' : (f == n) = false := by simpa using z
      simp [List.lookup, z'] at h
      obtain ⟨v, h1, h2⟩ := lookup_pair hr h
      exact ⟨v, by simp [List.lookup, z', h1], h2⟩
theorem flat_any {K : PySem.W.Frag} {H H' : Hp} {v : V} {d : PyData} (h : DR K H v d) (b : FE.flatB d = true) : DR K H' v d := by
  unfold FE.flatB at b
  split at b
  next z => cases h; exact .str _
  next i => cases h; exact .int _
  next => cases b
theorem fs_tryA {i j c0 : Nat} {x n f : Str} {c : Value} {body suite : List Stmt} {b₀ : Stmt} {np pos pos' : Pos} {mb : Sx} (hs : X.stack = X.env :: X.outer) (hf : X.env.frame = some X.env.locals) (hN : X.N.Nodup) (hi : X.N[i]? = some n) (hln : X.env.kindOf n = some .local) (hc : Names X x c)
    (hm : PySem.W.exmOne X.K (.ref (fx c0)) c = some true)
    (hb : ∀ (W : WX) (pn : List (Addr × Obj)) (xe : Value → Shared → Prop), Takes (X.tr pn xe) W → PassesOwn (model X.prog X.w) X.A X.env xe → FSs (X.tr pn xe) P fx W body mb)
    (hsu : ∀ (a : Addr) (oe : Obj) (d : Option Addr) (pn : List (Addr × Obj)), Zc (.ref (fx c0)) d oe → (∃ vs, oe.data = .fields vs) → PSs (X.suite a ((a, oe) :: pn)) (b₀ :: suite) (tSuiteA i j f a d)) :
    FS X P fx W (.Try body [.ExceptHandler (some (.Name x np)) (some n) (b₀ :: suite) pos'] [] [] pos) (sTryA i j c0 f mb) := by
  refine PS.imp (ps_try_as (ts := fun a cls d D σ H => cls = .ref (fx c0) ∧ tSuiteA i j f a d D σ H) hs hf hN hi hln hc takesF hb fun a oe cls d pn hz hv => ⟨fun pins s σ H D I h => by
    obtain ⟨e, h⟩ := h
    subst e
    exact (hsu a oe d pn hz hv).run pins s σ H D I h⟩) ?_
  rintro D σ H ⟨M, r, ss, rw, o, I, e, q⟩
  unfold sTryA at e
  split at e
  next ex ss1 rw1 e1 =>
    split at e
    next hno =>
      obtain ⟨hno, hij, hc0⟩ := hno
      split at e
      next d ds ef ej =>
        split at e
        next hfl =>
          cases e
          have hn : ss1[i]? = some .no := noAt_eq hno
          refine ⟨M, r, ss, rw, _, I, e1, fun σ' cls dd H' g' I' hx => ?_⟩
          refine ⟨true, by rw [hx.1, hc0]; exact hm, fun _ a ha => ⟨by rw [hx.1, hc0], ?_⟩, fun z => by cases z⟩
          have hl : i < σ'.length := by
            rw [I'.len]
            exact (List.getElem?_eq_some_iff.mp hn).1
          have I2 := I'.setno (some (.ref a)) hn
          obtain ⟨p, us, h1, h2, h3, h4, h5⟩ := I2.ow j ds ej
          obtain ⟨_, hx⟩ := hx
          rcases hx with ⟨z, _⟩ | ⟨d2, vs, _, e2, e3, e4⟩
          · rw [z] at ef; cases ef
          · obtain ⟨v, lv, dv⟩ := lookup_pair e4 ef
            obtain ⟨J, G⟩ := I2.owned ej h1 (DRAll.append h3 (.cons (flat_any dv hfl.1) .nil))
            have hn2 : (ss1.set j (.own (ds ++ [d])))[i]? = some .no := by rw [List.getElem?_set_ne (Ne.symm hij)]; exact hn
            have J2 := J.setno none hn2
            refine ⟨d2, vs, v, p, us, List.getElem?_set_self hl, e2, e3, lv, h1, h2, by rw [DRAll.length h3]; exact sz_lt hfl.2, ?_⟩
            have ga : Gr r σ' H' ss1 (σ'.set i (some (.ref a))) H' ss1 := ⟨fun b o e _ _ => e, fun b z => .inl ((own_setno hn b).mp z), fun b z => z⟩
            have gb : Gr r (σ'.set i (some (.ref a))) (upd H' p (.lst (us ++ [v]))) (ss1.set j (.own (ds ++ [d]))) ((σ'.set i (some (.ref a))).set i none) (upd H' p (.lst (us ++ [v]))) (ss1.set j (.own (ds ++ [d]))) := ⟨fun b o e _ _ => e, fun b z => .inl ((own_setno hn2 b).mp z), fun b z => z⟩
            exact q _ _ (((g'.trans ga).trans G).trans gb) J2
        next => cases e
      next => cases e
    next => cases e
  next hne =>
    refine ⟨M, r, ss, rw, o, I, e, ?_⟩
    cases o with
    | nx ss1 rw1 => exact q
    | bk ss1 rw1 => exact q
    | ct ss1 rw1 => exact q
    | rt x rw1 => exact q
    | rl ds rw1 => exact q
    | er x ss1 rw1 => exact absurd e (hne x ss1 rw1)
end
end FL
namespace FE
open PySem PySem.Spec PyProof.Rows L2
open FL (tSuiteA)
/-- if <never>: return ..; told.append(e.f) -/
theorem suite_app {X : Cx} {a C : Addr} {oe : Obj} {d : Option Addr} {pn : List (Addr × Obj)} {i j : Nat} {test : Expr} {ret : List Stmt} {told n f : Str} {p0 p1 p2 p3 p4 p5 ip : Pos} (T : XfC X.K C) (hno : PySem.W.findIn X.K (.ref C) f = some none) (hz : Zc (.ref C) d oe) (hf : ∃ vs, oe.data = .fields vs)
    (ht : PT (X.suite a ((a, oe) :: pn)) test (tT0 (GE i a d) false)) (hr : ∃ t, PSs (X.suite a ((a, oe) :: pn)) ret t) (hv : PE (X.suite a ((a, oe) :: pn)) (.Name told p0) (tVar j)) (he : PE (X.suite a ((a, oe) :: pn)) (.Name n p4) (tVar i))
    (hb1 : attributeBase (.Name n p4) f X.env (eval (.Name n p4) X.env) = eval (.Name n p4) X.env := by rfl)
    (hbase : attributeBase (.Name told p0) "append" X.env (eval (.Name told p0) X.env) = eval (.Name told p0) X.env := by rfl)
    (hfew : ((backTo p2 (starEach [.Attribute (.Name n p4) f p5] X.env)).all (fun x => !x.1) && (backToKw p2 (keywordEach [] X.env)).all (fun x => x.1.isSome)
      && decide ([Expr.Attribute (.Name n p4) f p5].length + ([] : List Keyword).length + (if ([] : List Keyword).isEmpty then 0 else 1) < 30)) = true := by rfl)
    (hline : (p1.endLine == p2.line) = true := by rfl) (hs : starEach [.Attribute (.Name n p4) f p5] X.env = (false, eval (.Attribute (.Name n p4) f p5) X.env) :: starEach [] X.env := by rfl) (hplain : (backTo p2 (starEach [] X.env)).any (·.1) = false := by rfl)
    (hsw : swapsWith (.Call (.Attribute (.Name told p0) "append" p1) [.Attribute (.Name n p4) f p5] [] p2) none p3.line X.env = pure false := by rfl) :
    PSs (X.suite a ((a, oe) :: pn)) [.If test ret [] ip, .Expr (.Call (.Attribute (.Name told p0) "append" p1) [.Attribute (.Name n p4) f p5] [] p2) p3] (tSuiteA i j f a d) := by
  obtain ⟨tr, hr⟩ := hr
  refine FL.PSs.imp (pss_cons (ps_if ht hr pss_nil) (pss_one (ps_expr (pe_bm PySem.F.plainAttrs_list PySem.F.slot_list_append PySem.F.type_list_append mt_append hv (pa_cons (pe_xf T hno hz hf he hb1) pa_nil hs) hbase hfew hline hs hplain) hsw))) ?_
  rintro D σ H ⟨dd, fs, v, p, us, e1, e2, e3, e4, e5, e6, e7, q⟩
  refine ⟨⟨e1, dd, fs, e2, e3⟩, ?_⟩
  refine ⟨_, e5, .inl ⟨rfl, us, SqL.of e6⟩, ?_⟩
  refine ⟨_, e1, rfl, rfl, dd, fs, v, e2, e3, e4, ?_⟩
  exact ⟨p, us, v, rfl, rfl, e6, e7, q⟩
end FE
/-! An own list's item set, its length; a class of exceptions from what the top says. -/
namespace FL
open PySem L2
section
variable {P : Pm} {X : Cx} {fx : Nat → Addr} {W : WX}
/-- x[k] = e, x an own list -/
def sSetO (i : Nat) (mk m : Mx Vl) : Sx := fun ss rw => match m ss rw with
  | some (.dat d, rw1) => (match mk ss rw1 with
    | some (.dat (.int k), rw2) => (match ss[i]? with
      | some (.own ds) => (match ixN ds.length k with
        | some j => some (.nx (ss.set i (.own (ds.set j d))) rw2)
        | none => none)
      | _ => none)
    | _ => none)
  | _ => none
theorem fs_setO {i : Nat} {x : Str} {e k : Expr} {m mk : Mx Vl} {p0 p3 pos : Pos} (hv : PE X (.Name x p0) (tVar i)) (hk : FE X P k mk) (he : FE X P e m) (hs : swapsWithSole [.Subscript (.Name x p0) k p3] e pos.line X.env = pure false := by rfl) (hw : swappedStores [.Subscript (.Name x p0) k p3] e X.env = pure none := by rfl)
    (ha : ∀ v, assign (.Subscript (.Name x p0) k p3) X.env v = (do
      let ov ← holding [v] (eval (.Name x p0) X.env)
      let iv ← holding [v, ov] (eval k X.env)
      standAt p3
      holding [v, ov, iv] (setItem ov iv v)
      release [v, ov, iv] []) := by intro _; rfl) (h1 : (assignEach [.Subscript (.Name x p0) k p3] X.env).map (·.2) = [assign (.Subscript (.Name x p0) k p3) X.env] := by rfl) :
    FS X P fx W (.Assign [.Subscript (.Name x p0) k p3] e pos) (sSetO i mk m) := by
  refine PS.imp (ps_asg he (pg_sub hv hk set_list ha) hs hw h1) ?_
  rintro D σ H ⟨M, r, ss, rw, o, I, e, q⟩
  unfold sSetO at e
  split at e
  next d rw1 e1 =>
    split at e
    next kk rw2 e2 =>
      split at e
      next ds hi =>
        split at e
        next j hj =>
          cases e
          refine ⟨M, r, ss, rw, _, rw1, I, e1, fun v H1 k1 I1 hv => ?_⟩
          obtain ⟨p, vs, h1, h2, h3, h4, h5⟩ := I1.ow i ds hi
          refine ⟨_, h1, M, r, ss, rw1, _, rw2, I1, e2, fun u H2 k2 I2 hu => ?_⟩
          obtain ⟨p', vs', g1, g2, g3, g4, g5⟩ := I2.ow i ds hi
          rw [h1] at g1
          cases g1
          rw [vr_int hu]
          have hv2 := VR.mono k2.msk hv
          refine ⟨p, vs', kk, j, rfl, rfl, g2, by rw [DRAll.length g3]; exact hj, ?_⟩
          obtain ⟨J, G⟩ := I2.owned hi h1 (DRAll.set j g3 hv2)
          exact q _ _ ((Gr.ofR (k1.trans k2) I2).trans G) J
        next => cases e
      next => cases e
    next => cases e
  next => cases e
/-- len(x), x an own list or what a name tells -/
def mLenO (i : Nat) : Mx Vl := fun ss rw => match ss[i]? with
  | some (.own ds) => some (.dat (.int (ds.length : Nat)), rw)
  | _ => none
theorem fe_lenO {i : Nat} {x : Str} {p0 p4 pos : Pos} (hv : PE X (.Name x p0) (tVar i)) (hm : X.mg "len" = none) (hK : X.K = P.K := by rfl) (hg : Gl X "len" := by rfl)
    (he0 : starEach [.Name x p0] X.env = (false, eval (.Name x p0) X.env) :: starEach [] X.env := by rfl) (hpl : (backTo pos (starEach [] X.env)).any (·.1) = false := by rfl) :
    FE X P (.Call (.Name "len" p4) [.Name x p0] [] pos) (mLenO i) := by
  refine PE.imp (pe_callB FL.call_lenD hg hm (by decide +kernel) (pa_cons hv pa_nil he0) (by decide) (by decide) he0 hpl) ?_
  rw [hK]
  rintro σ H Q ⟨M, r, ss, rw, y, rw', I, e, q⟩
  unfold mLenO at e
  split at e
  next ds hi =>
    cases e
    obtain ⟨p, vs, h1, h2, h3, _⟩ := I.ow i ds hi
    exact ⟨_, h1, ⟨_, ds.length, rfl, .inl ⟨vs, SqL.of h2, (DRAll.length h3).symm⟩, q _ H (KeepR.refl _ _) I (DR.int _)⟩⟩
  next => cases e
end
end FL
namespace FE
open PySem PySem.Spec PyProof.Rows L2 NdefX
open FL (Mx Vl Pm)
/-- the words of a def's statement -/
def nfOf (name qual : Str) (st : Stmt) (cc c : Addr) : NF := ⟨name, qual, defArgs st, defBody st, defScope st, [(("__class__" : Str), cc)], c⟩
/-- OexC from the pieces that the top tells -/
theorem oex_mk {K : PySem.W.Frag} {C : Addr} {nm q : Str} {N : Addr} {bs bm : List Value} {sn : List Str} {sub : List Value} {ab : Bool} {col : Option Bool} {dd : Option Addr} {k0 k1 k2 k3 k5 : Option Value}
    (h : K.lookup C = some (excClassObj nm q C N bs bm true sn sub ab col dd k0 k1 k2 k3 k5 "ValueError.__new__")) (h2 : PySem.HandSPX.refsVE bm = true) (sa : PySem.W.findIn K (.ref C) "__setattr__" = some (some (.builtin "object.__setattr__"))) (exC : PySem.W.subIn K (.ref C) (.type "BaseException") = some true)
    (tyC : PySem.W.typeIn K (.ref C) = some (.type "type")) (kC : PySem.W.keepIn K (.ref C) = true) : OexC K C := ⟨⟨nm, q, N, bs, bm, sn, sub, ab, col, dd, k0, k1, k2, k3, k5, h, h2⟩, sa, exC, tyC, kC⟩
end FE
/-! An own list lent to a call whose answer holds no list. -/
namespace FL
open PySem L2
mutual
def noLst : PyData → Bool
  | .list _ => false
  | .dict _ => false
  | .tuple ds => noLsts ds
  | _ => true
def noLsts : List PyData → Bool
  | [] => true
  | d :: ds => noLst d && noLsts ds
end
mutual
theorem dr_noLst {K : PySem.W.Frag} {H H' : Hp} (e : ∀ b o, H b = some o → (∀ xs, o ≠ .lst xs) → H' b = some o) : ∀ (d : PyData) (v : V), noLst d = true → DR K H v d → DR K H' v d
  | .none, _, _, h => by cases h; exact .non
  | .bool b, _, _, h => by cases h; exact .bl b
  | .int i, _, _, h => by cases h; exact .int i
  | .str x, _, _, h => by cases h; exact .str x
  | .list ds, _, z, h => by simp [noLst] at z
  | .tuple ds, _, z, h => by
    cases h with
    | tup a b =>
      refine .tup ?_ (drAll_noLst e ds _ (by simpa [noLst] using z) b)
      rcases a with (a | ⟨o, a⟩) | a
      · exact .inl (.inl (e _ _ a (by simp)))
      · exact .inl (.inr ⟨o, e _ _ a (by simp)⟩)
      · exact .inr a
  | .dict _, _, _, h => by cases h
theorem drAll_noLst {K : PySem.W.Frag} {H H' : Hp} (e : ∀ b o, H b = some o → (∀ xs, o ≠ .lst xs) → H' b = some o) : ∀ (ds : List PyData) (vs : List V), noLsts ds = true → DRAll K H vs ds → DRAll K H' vs ds
  | [], _, _, h => by cases h; exact .nil
  | d :: ds, _, z, h => by
    simp [noLsts] at z
    cases h with
    | cons h1 h2 => exact .cons (dr_noLst e d _ z.1 h1) (drAll_noLst e ds _ z.2 h2)
end
section
variable {P : Pm} {X : Cx} {fx : Nat → Addr} {W : WX} {M : Addr → Prop} {r : Option Addr} {σ : St} {H : Hp} {ss : List Sl} {rw : Ro}
theorem lent_sees (I : ER P M r σ H ss rw) (i : Nat) {N : Addr → Prop} {H1 : Hp} (k : KeepR none H H1) : ∀ b o, hdn (Msk (fun a => (M a ∨ r = some a) ∨ N a) none σ (noRow (frz i ss))) H1 b = some o → (∀ xs, o ≠ .lst xs) → hdn (Msk (fun a => M a ∨ N a) r σ ss) H1 b = some o := fun b o h no => by
  obtain ⟨h1, h2⟩ := mk_some.mp h
  refine mk_some.mpr ⟨fun z => h1 ?_, h2⟩
  rcases z with (z | z) | z | ⟨j, ds, z1, z2⟩
  · exact .inl (.inl (.inl z))
  · exact .inl (.inr z)
  · exact .inl (.inl (.inr z))
  · by_cases hj : i = j
    · subst hj
      obtain ⟨a, us, e1, e2, _⟩ := I.ow i ds z1
      rw [z2] at e1
      cases e1
      have := k b _ e2 (by simp)
      rw [h2] at this
      cases this
      exact absurd rfl (no us)
    · refine .inr (.inr ⟨j, ds, noRow_own ?_, z2⟩)
      unfold frz
      split
      · rw [List.getElem?_set_ne hj]; exact z1
      · exact z1
def mBorV (i : Nat) (m : Mx Vl) : Mx Vl := fun ss rw => match m (noRow (frz i ss)) (0, 0) with
  | some (.dat d, _) => if noLst d = true then some (.dat d, rw) else none
  | _ => none
theorem fe_bor (i : Nat) {e : Expr} {m : Mx Vl} (h : FE X P e m) : FE X P e (mBorV i m) := by
  refine PE.imp h ?_
  rintro σ H Q ⟨M, r, ss, rw, b, rw', I, e, q⟩
  unfold mBorV at e
  split at e
  next d rw1 e1 =>
    split at e
    next hd =>
      cases e
      refine ⟨_, none, _, (0, 0), .dat d, rw1, (I.frz i).1.noRow (0, 0), e1, fun v H1 k1 I1 hv => ?_⟩
      have sm : Same H H1 := fun b o e => k1 b o e (by simp)
      refine q v H1 (KeepR.of sm) (I.grow sm) (dr_noLst (fun b o z no => ?_) d v hd hv)
      have := lent_sees I i (N := fun _ => False) k1 b o (by
        obtain ⟨z1, z2⟩ := mk_some.mp z
        refine mk_some.mpr ⟨fun y => z1 ?_, z2⟩
        rcases y with (y | y) | y
        · exact .inl y
        · exact y.elim
        · exact .inr y) no
      obtain ⟨z1, z2⟩ := mk_some.mp this
      refine mk_some.mpr ⟨fun y => z1 ?_, z2⟩
      rcases y with y | y
      · exact .inl (.inl y)
      · exact .inr y
    next => cases e
  next => cases e
def mBorL (i : Nat) (m : Mx (List PyData)) : Mx (List PyData) := fun ss rw => match m (noRow (frz i ss)) (0, 0) with
  | some (ds, _) => if noLsts ds = true then some (ds, rw) else none
  | _ => none
theorem fl_bor (i : Nat) {e : Expr} {m : Mx (List PyData)} (h : FL X P e m) : FL X P e (mBorL i m) := by
  refine PE.imp h ?_
  rintro σ H Q ⟨M, r, ss, rw, b, rw', I, e, q⟩
  unfold mBorL at e
  split at e
  next ds rw1 e1 =>
    split at e
    next hd =>
      cases e
      refine ⟨_, none, _, (0, 0), b, rw1, (I.frz i).1.noRow (0, 0), e1, fun p vs H1 k1 I1 hp hp1 hv => ?_⟩
      have sm : Same H H1 := fun b o e => k1 b o e (by simp)
      exact q p vs H1 (KeepR.of sm) (I.hideS sm hp (by rw [hp1]; simp)) hp hp1 (drAll_noLst (lent_sees I i (N := fun a => a = p) k1) b vs hd hv)
    next => cases e
  next => cases e
end
end FL
namespace Law
open PySem L2 FL
def topS (i : Nat) : Stmt := PySem.Challenge.pw_trendhouse_k08_runs_looked_through.main.body.getD i (.Pass ⟨0, 0, 0, 0⟩)
structure Tx (K : PySem.W.Frag) (w : World) (mg : Str → Option Value) (C : Addr) : Prop where
  cH : Cls K C
  h_things : NoAttr K C "_things"
  h_ties : NoAttr K C "_ties"
  n_ValueError : mg "ValueError" = none
  n_len : mg "len" = none
  n_tuple : mg "tuple" = none
  n_list : mg "list" = none
  n_int : mg "int" = none
  n_abs : mg "abs" = none
  n_all : mg "all" = none
  n_max : mg "max" = none
  n_min : mg "min" = none
  n_range : mg "range" = none
  n_enumerate : mg "enumerate" = none
  n_zip : mg "zip" = none
  n_isinstance : mg "isinstance" = none
  n_bool : mg "bool" = none
  n_str : mg "str" = none
  n_sorted : mg "sorted" = none
  n_set : mg "set" = none
  g_FEWEST_ROWS : ∃ t, mg "FEWEST_ROWS" = some (.int 2 t)
  g_LETTERS : ∃ t, mg "LETTERS" = some (.str (PySem.Str.ofString "abcdefghijklmnopqrstuvwxyz") t)
  g_LONGEST_NAME : ∃ t, mg "LONGEST_NAME" = some (.int 8 t)
  g_MOST_THINGS : ∃ t, mg "MOST_THINGS" = some (.int 3 t)
  g_MOST_MARKS : ∃ t, mg "MOST_MARKS" = some (.int 3 t)
  g_MOST_TIES : ∃ t, mg "MOST_TIES" = some (.int 6 t)
  g_LOWEST_MARK : ∃ t, mg "LOWEST_MARK" = some (.int (-99) t)
  g_HIGHEST_MARK : ∃ t, mg "HIGHEST_MARK" = some (.int 99 t)
  g_LEAST_GAP : ∃ t, mg "LEAST_GAP" = some (.int 2 t)
  g_THINGS_NAMED : Gd K w mg "THINGS_NAMED" [(PySem.Str.ofString "with", 2), (PySem.Str.ofString "against", 2), (PySem.Str.ofString "sum", 3), (PySem.Str.ofString "product", 3), (PySem.Str.ofString "rate", 2), (PySem.Str.ofString "under", 1), (PySem.Str.ofString "over", 1)]
  g_MARK_WORDS : ∃ a, mg "MARK_WORDS" = some (.ref a) ∧ ∀ H, DR K H (.ref a) (.tuple [(.str (PySem.Str.ofString "rate")), (.str (PySem.Str.ofString "under")), (.str (PySem.Str.ofString "over"))])
def F_House_things : List Vl → Option (List PyData)
  | [.hse t _] => some t
  | _ => none
def F_House_ties : List Vl → Option (List PyData)
  | [.hse _ t] => some t
  | _ => none
section
structure Tex (K : PySem.W.Frag) (mg : Str → Option Value) (fx : Nat → Addr) (CT : Addr) : Prop where
  gT : mg "TrendError" = some (.ref CT)
  e2 : PySem.W.exmOne K (.ref (fx 2)) (.ref CT) = some true
  x2f : XfC K (fx 2)
  n2 : PySem.W.findIn K (.ref (fx 2)) "row" = some none
  c2 : ExcC K (fx 2)
  g2 : mg "BadRun" = some (.ref (fx 2))
  k22 : PySem.W.kitOne K (.ref (fx 2)) (.ref (fx 2)) = some true
  g0 : mg "BadHouse" = some (.ref (fx 0))
  k20 : PySem.W.kitOne K (.ref (fx 2)) (.ref (fx 0)) = some false
  g1 : mg "BadRoom" = some (.ref (fx 1))
  k21 : PySem.W.kitOne K (.ref (fx 2)) (.ref (fx 1)) = some false
  g3 : mg "BadText" = some (.ref (fx 3))
  k23 : PySem.W.kitOne K (.ref (fx 2)) (.ref (fx 3)) = some false
/-- a suite that tells True of a BadRoom -/
def sx1 (ex : Exn) : Option Vl := if ex.c = 1 ∧ ex.fs.isEmpty = true then some (.dat (.bool true)) else none
theorem sx1_eq {ex : Exn} {x : Vl} (h : sx1 ex = some x) : ex.c = 1 ∧ ex.fs = [] ∧ x = .dat (.bool true) := by
  unfold sx1 at h
  split at h
  next e =>
    cases h
    exact ⟨e.1, List.isEmpty_iff.mp e.2, rfl⟩
  next => cases h
variable {Pg : Program} {w : World} {K : PySem.W.Frag} {mg : Str → Option Value} {base : Heap} {ns : List Int} {C : Addr} {fx : Nat → Addr} {CT : Addr}
abbrev s_BadRun_init : Stmt := inClass (topS 4) 0
theorem ns_BadRun_init : NdefX.NScope ["self", "row", "__class__"] ["self", "row"] ["__class__"] (defScope s_BadRun_init) := NdefX.nscope_by (by decide +kernel)
def msg_BadRun : Mx Vl := mJs [(mC (.str (PySem.Str.ofString "no run: row "))), (mFmt (mVar 1))] PySem.Str.empty
theorem ok_BadRun {f CE cc cda : Addr} {fd : FuncData} (O : FE.OxF K mg Pg f CE cc fd (FE.nfOf "__init__" "BadRun.__init__" s_BadRun_init cc cda)) (hf0 : PySem.W.findIn K (.ref CE) "row" = some none) (iC : PySem.W.findIn K (.ref CE) "__init__" = some (some (.ref f))) (tI : PySem.W.typeIn K (.ref f) = some (.type "function")) (hb : Binds K fd ["self", "row"] []) (g : mg "BadRun" = some (.ref CE)) : FE.Ox1 Pg w K mg base 1 "BadRun" "row" "row" CE msg_BadRun :=
  ⟨⟨f, fd, FE.fn_ox1 (k := 0) (P := pm K [] CE) O ns_BadRun_init rfl rfl rfl rfl hf0 rfl rfl (fun A outer s H E => fe_joined (FJ.cons fe_str (FJ.cons (fe_fmt (fe_var 1)) FJ.nil))), iC, tI, hb⟩, O.oex, g⟩
abbrev s__law_taken : Stmt := topS 42
abbrev N__law_taken : List Str := ["_law_row", "_law_many", "_law_cell"]
theorem sc__law_taken : FnScope N__law_taken ["_law_row", "_law_many"] (defScope s__law_taken) := ⟨rfl, rfl, rfl, by decide +kernel, rfl, by decide +kernel, by decide +kernel⟩
def m__law_taken (ns : List Int) : Sx := (sSeq (sRow 0 false (m2 addD (mRow1 0) (mC (.int 1)))) (sSeq (sIf (mTst (m2 gtD (mRow1 0) (mRowLen 0 ns.length))) (sSeq (sRow 0 true (m2 modD (m2 addD (m2 mulD (mRow2 0) (mC (.int 48271))) (mC (.int 11))) (mC (.int 2147483647)))) (sRet (m2 modD (m2 fdivD (mRow2 0) (mC (.int 7))) (mVar 1)))) sNx) (sSeq (sSet 2 (mRowAt 0 ns (m2 subD (mRow1 0) (mC (.int 1))))) (sSeq (sRow 0 true (m2 modD (m2 addD (m2 addD (m2 mulD (mRow2 0) (mC (.int 48271))) (mVar 2)) (mC (.int 11))) (mC (.int 2147483647)))) (sRet (m2 modD (mVar 2) (mVar 1)))))))
def F__law_taken (ns : List Int) : List Vl → Ro → Option (Vl × Ro) := bodyR 3 1 (m__law_taken ns)
theorem ok__law_taken (T : Tx K w mg C) (h : Hr K mg "_law_taken" s__law_taken) : Dn Pg w K mg base CX0 1 "_law_taken" ["_law_row", "_law_many"] (spR (pm K ns C) (F__law_taken ns)) :=
  dn_R (fx := fun _ => 0) h sc__law_taken (by decide) (by decide) (fun _ _ _ _ _ _ us hl => match us, hl with | [_, _], _ => rfl) (fun f cdv A outer s H E hr => 
    (fss_cons (fs_row1 (pv 0) (fe_op op_addD ok_add (fe_row1 (pv 0)) fe_int)) (fss_cons (fs_if (ft_cmp op_gt ok_gt (fe_row1 (pv 0)) (fe_rowLen (pv 0) T.n_len) (nomark _)) (fss_cons (fs_row2 (pv 0) (fe_op op_mod ok_mod (fe_op op_addD ok_add (fe_op op_mulD ok_mul (fe_row2 (pv 0)) fe_int) fe_int) fe_int)) (fss_one (fs_ret (fe_op op_mod ok_mod (fe_op op_fdiv ok_fdiv (fe_row2 (pv 0)) fe_int) (fe_var 1))))) fss_nil) (fss_cons (fs_set (i := 2) rfl (by first | exact Or.inl rfl | exact Or.inr rfl) (fe_rowAt (pv 0) (fe_op op_sub ok_sub (fe_row1 (pv 0)) fe_int)) sc__law_taken.nd (Or.inl rfl)) (fss_cons (fs_row2 (pv 0) (fe_op op_mod ok_mod (fe_op op_addD ok_add (fe_op op_addD ok_add (fe_op op_mulD ok_mul (fe_row2 (pv 0)) fe_int) (fe_var 2)) fe_int) fe_int)) (fss_one (fs_ret (fe_op op_mod ok_mod (fe_var 2) (fe_var 1)))))))))
abbrev s__law_marks : Stmt := topS 43
abbrev N__law_marks : List Str := ["_law_row", "_law_many", "_law_far", "_law_found", "_law_k", "_law_begin", "_law_mark"]
theorem sc__law_marks : FnScope N__law_marks ["_law_row", "_law_many", "_law_far"] (defScope s__law_marks) := ⟨rfl, rfl, rfl, by decide +kernel, rfl, by decide +kernel, by decide +kernel⟩
def m__law_marks (ns : List Int) : Sx := (sSeq (sOwn 3 (mLst (mCons (mC (.int 0)) mNil))) (sSeq (sFor (mRg1 (m2 subD (mVar 1) (mC (.int 1)))) (gNm 4) (sApp 3 (m2 addD (m2 addD (mIxV 3 (m1 negD (mC (.int 1)))) (mC (.int 2))) (mCallR 0 (F__law_taken ns) (mCons (mVar 2) mNil))))) (sSeq (sSet 5 (m2 subD (mCallR 0 (F__law_taken ns) (mCons (m2 subD (mC (.int 199)) (mIxV 3 (m1 negD (mC (.int 1))))) mNil)) (mC (.int 99)))) (sSeq (sIf (mTst (m2 eqD (mCallR 0 (F__law_taken ns) (mCons (mC (.int 6)) mNil)) (mC (.int 5)))) (sSet 5 (m2 ixD (mList (mLst (mCons (m2 subD (mC (.int 0)) (mC (.int 99))) (mCons (m2 subD (mC (.int 99)) (mIxV 3 (m1 negD (mC (.int 1))))) mNil)))) (mCallR 0 (F__law_taken ns) (mCons (mC (.int 2)) mNil)))) sNx) (sFrz 3 (sRet (m1 tupleD (mList (mLc [6] (mSeq (mVar 3)) (gNm 6) mYes (m2 addD (mVar 5) (mVar 6)))))))))))
def F__law_marks (ns : List Int) : List Vl → Ro → Option (Vl × Ro) := bodyR 7 2 (m__law_marks ns)
theorem ok__law_marks (T : Tx K w mg C) (h : Hr K mg "_law_marks" s__law_marks) (D__law_taken : Dn Pg w K mg base CX0 1 "_law_taken" ["_law_row", "_law_many"] (spR (pm K ns C) (F__law_taken ns))) : Dn Pg w K mg base CX0 2 "_law_marks" ["_law_row", "_law_many", "_law_far"] (spR (pm K ns C) (F__law_marks ns)) :=
  dn_R (fx := fun _ => 0) h sc__law_marks (by decide) (by decide) (fun _ _ _ _ _ _ us hl => match us, hl with | [_, _, _], _ => rfl) (fun f cdv A outer s H E hr => 
    (fss_cons (fs_own (i := 3) rfl (by first | exact Or.inl rfl | exact Or.inr rfl) (fl_lst (fa_cons fe_int fa_nil)) sc__law_marks.nd (Or.inl rfl)) (fss_cons (fs_for (fi_rg1 (fe_op op_sub ok_sub (fe_var 1) fe_int) T.n_range) (pg_name (i := 4) sc__law_marks.nd rfl (by first | exact Or.inl rfl | exact Or.inr rfl) (by first | exact Or.inl rfl | exact Or.inr rfl)) (gok_name 4) (fss_one (fs_append (pv 3) (fe_op op_addD ok_add (fe_op op_addD ok_add (fe_ixV (pv 3) (fe_un un_neg ok_neg fe_int)) fe_int) (fe_callRD D__law_taken (hr.mono (by decide)) (pv 0) (fa_cons (fe_var 2) fa_nil))))) PassesOwn.never) (fss_cons (fs_set (i := 5) rfl (by first | exact Or.inl rfl | exact Or.inr rfl) (fe_op op_sub ok_sub (fe_callRD D__law_taken (hr.mono (by decide)) (pv 0) (fa_cons (fe_op op_sub ok_sub fe_int (fe_ixV (pv 3) (fe_un un_neg ok_neg fe_int))) fa_nil)) fe_int) sc__law_marks.nd (Or.inl rfl)) (fss_cons (fs_if (ft_cmp (op_eqDD (hu64 hr)) ok_eq (fe_callRD D__law_taken (hr.mono (by decide)) (pv 0) (fa_cons fe_int fa_nil)) fe_int (nomark _)) (fss_one (fs_set (i := 5) rfl (by first | exact Or.inl rfl | exact Or.inr rfl) (fe_ix (fe_list (fl_lst (fa_cons (fe_op op_sub ok_sub fe_int fe_int) (fa_cons (fe_op op_sub ok_sub fe_int (fe_ixV (pv 3) (fe_un un_neg ok_neg fe_int))) fa_nil)))) (fe_callRD D__law_taken (hr.mono (by decide)) (pv 0) (fa_cons fe_int fa_nil))) sc__law_marks.nd (Or.inl rfl))) fss_nil) (fss_one (fs_frz 3 (fs_ret (fe_t1 FL.call_tupD ok_tuple T.n_tuple (by decide +kernel) (fe_list (fl_lc (fi_seq (fe_var 3)) (blkOk_by (own := [("_law_mark", 6)]) (N := N__law_marks) (sc := defScope s__law_marks) (by decide +kernel)) rfl (gok_name 6) (fun _ _ _ _ _ => (pg_name (i := 6) sc__law_marks.nd rfl (by first | exact Or.inl rfl | exact Or.inr rfl) (by first | exact Or.inl rfl | exact Or.inr rfl))) (fun _ _ _ _ _ => fts_nil) (fun _ _ _ _ _ => (fe_op op_addD ok_add (fe_var 5) (fe_var 6))) sc__law_marks.nd)))))))))))
abbrev s__law_things : Stmt := topS 44
abbrev N__law_things : List Str := ["_law_row", "_law_most", "_law_long", "_law_turn", "_law_base", "_law_cut", "_law_within", "_law_far", "_law_things_here", "_law_k", "_law_sign", "_law_name"]
theorem sc__law_things : FnScope N__law_things ["_law_row", "_law_most", "_law_long"] (defScope s__law_things) := ⟨rfl, rfl, rfl, by decide +kernel, rfl, by decide +kernel, by decide +kernel⟩
def m__law_things (ns : List Int) : Sx := (sSeq (sSet 3 (mCallR 0 (F__law_taken ns) (mCons (mC (.int 26)) mNil))) (sSeq (sSet 4 (m2 joinD (mC (.str (PySem.Str.ofString ""))) (mList (mLc [9] (mRg1 (mC (.int 8))) (gNm 9) mYes (m2 ixD (mC (.str (PySem.Str.ofString "abcdefghijklmnopqrstuvwxyz"))) (m2 modD (m2 addD (mVar 3) (m2 mulD (mC (.int 7)) (mVar 9))) (mC (.int 26)))))))) (sSeq (sSet 5 (mCallR 0 (F__law_taken ns) (mCons (mC (.int 6)) mNil))) (sSeq (sSet 6 (m2 eqD (mCallR 0 (F__law_taken ns) (mCons (mC (.int 3)) mNil)) (mC (.int 2)))) (sSeq (sSet 7 (m2 ixD (mList (mLst (mCons (mC (.int 1)) (mCons (mC (.int 4)) (mCons (mC (.int 60)) mNil))))) (mCallR 0 (F__law_taken ns) (mCons (mC (.int 3)) mNil)))) (sSeq (sOwn 8 (mLst mNil)) (sSeq (sFor (mRg1 (m2 addD (mC (.int 1)) (mCallR 0 (F__law_taken ns) (mCons (mVar 1) mNil)))) (gNm 9) (sSeq (sSet 10 (m2 ixD (mC (.str (PySem.Str.ofString "abcdefghijklmnopqrstuvwxyz"))) (m2 modD (m2 addD (m2 addD (mVar 3) (mC (.int 3))) (m2 mulD (mC (.int 5)) (mVar 9))) (mC (.int 26))))) (sSeq (sSet 11 (m2 ixD (mList (mLst (mCons (m2 addD (mSl (mVar 4) mNone (mSome (mVar 5))) (mVar 10)) (mCons (mSl (mVar 4) mNone (mSome (m2 addD (m2 addD (mVar 5) (mC (.int 1))) (mVar 9)))) mNil)))) (m1 intD (mVar 6)))) (sApp 8 (mTup (mCons (mVar 11) (mCons (mCallR 0 (F__law_marks ns) (mCons (m2 addD (mC (.int 1)) (mCallR 0 (F__law_taken ns) (mCons (mVar 2) mNil))) (mCons (mVar 7) mNil))) mNil))))))) (sRetO 8))))))))
def F__law_things (ns : List Int) : List Vl → Ro → Option (Vl × Ro) := bodyR 12 2 (m__law_things ns)
theorem ok__law_things (T : Tx K w mg C) (h : Hr K mg "_law_things" s__law_things) (D__law_taken : Dn Pg w K mg base CX0 1 "_law_taken" ["_law_row", "_law_many"] (spR (pm K ns C) (F__law_taken ns))) (D__law_marks : Dn Pg w K mg base CX0 2 "_law_marks" ["_law_row", "_law_many", "_law_far"] (spR (pm K ns C) (F__law_marks ns))) : Dn Pg w K mg base CX0 3 "_law_things" ["_law_row", "_law_most", "_law_long"] (spR (pm K ns C) (F__law_things ns)) :=
  dn_R (fx := fun _ => 0) h sc__law_things (by decide) (by decide) (fun _ _ _ _ _ _ us hl => match us, hl with | [_, _, _], _ => rfl) (fun f cdv A outer s H E hr => 
    (fss_cons (fs_set (i := 3) rfl (by first | exact Or.inl rfl | exact Or.inr rfl) (fe_callRD D__law_taken (hr.mono (by decide)) (pv 0) (fa_cons fe_int fa_nil)) sc__law_things.nd (Or.inl rfl)) (fss_cons (fs_set (i := 4) rfl (by first | exact Or.inl rfl | exact Or.inr rfl) (fe_join fe_str (fe_list (fl_lc (fi_rg1 fe_int T.n_range) (blkOk_by (own := [("_law_k", 9)]) (N := N__law_things) (sc := defScope s__law_things) (by decide +kernel)) rfl (gok_name 9) (fun _ _ _ _ _ => (pg_name (i := 9) sc__law_things.nd rfl (by first | exact Or.inl rfl | exact Or.inr rfl) (by first | exact Or.inl rfl | exact Or.inr rfl))) (fun _ _ _ _ _ => fts_nil) (fun _ _ _ _ _ => (fe_ix fe_str (fe_op op_mod ok_mod (fe_op op_addD ok_add (fe_var 3) (fe_op op_mulD ok_mul fe_int (fe_var 9))) fe_int))) sc__law_things.nd))) sc__law_things.nd (Or.inl rfl)) (fss_cons (fs_set (i := 5) rfl (by first | exact Or.inl rfl | exact Or.inr rfl) (fe_callRD D__law_taken (hr.mono (by decide)) (pv 0) (fa_cons fe_int fa_nil)) sc__law_things.nd (Or.inl rfl)) (fss_cons (fs_set (i := 6) rfl (by first | exact Or.inl rfl | exact Or.inr rfl) (fe_cmp (op_eqDD (hu64 hr)) ok_eq (fe_callRD D__law_taken (hr.mono (by decide)) (pv 0) (fa_cons fe_int fa_nil)) fe_int (nomark _)) sc__law_things.nd (Or.inl rfl)) (fss_cons (fs_set (i := 7) rfl (by first | exact Or.inl rfl | exact Or.inr rfl) (fe_ix (fe_list (fl_lst (fa_cons fe_int (fa_cons fe_int (fa_cons fe_int fa_nil))))) (fe_callRD D__law_taken (hr.mono (by decide)) (pv 0) (fa_cons fe_int fa_nil))) sc__law_things.nd (Or.inl rfl)) (fss_cons (fs_own (i := 8) rfl (by first | exact Or.inl rfl | exact Or.inr rfl) (fl_lst fa_nil) sc__law_things.nd (Or.inl rfl)) (fss_cons (fs_for (fi_rg1 (fe_op op_addD ok_add fe_int (fe_callRD D__law_taken (hr.mono (by decide)) (pv 0) (fa_cons (fe_var 1) fa_nil))) T.n_range) (pg_name (i := 9) sc__law_things.nd rfl (by first | exact Or.inl rfl | exact Or.inr rfl) (by first | exact Or.inl rfl | exact Or.inr rfl)) (gok_name 9) (fss_cons (fs_set (i := 10) rfl (by first | exact Or.inl rfl | exact Or.inr rfl) (fe_ix fe_str (fe_op op_mod ok_mod (fe_op op_addD ok_add (fe_op op_addD ok_add (fe_var 3) fe_int) (fe_op op_mulD ok_mul fe_int (fe_var 9))) fe_int)) sc__law_things.nd (Or.inl rfl)) (fss_cons (fs_set (i := 11) rfl (by first | exact Or.inl rfl | exact Or.inr rfl) (fe_ix (fe_list (fl_lst (fa_cons (fe_op op_addD ok_add (fe_sl (fe_var 4) fo_none (fo_some (fe_var 5))) (fe_var 10)) (fa_cons (fe_sl (fe_var 4) fo_none (fo_some (fe_op op_addD ok_add (fe_op op_addD ok_add (fe_var 5) fe_int) (fe_var 9)))) fa_nil)))) (fe_t1 FL.call_intD ok_int T.n_int (by decide +kernel) (fe_var 6))) sc__law_things.nd (Or.inl rfl)) (fss_one (fs_append (pv 8) (fe_tup (fa_cons (fe_var 11) (fa_cons (fe_callRD D__law_marks (hr.mono (by decide)) (pv 0) (fa_cons (fe_op op_addD ok_add fe_int (fe_callRD D__law_taken (hr.mono (by decide)) (pv 0) (fa_cons (fe_var 2) fa_nil))) (fa_cons (fe_var 7) fa_nil))) fa_nil))))))) PassesOwn.never) (fss_one (fs_retO (pv 8)))))))))))
abbrev s__law_tie : Stmt := topS 45
abbrev N__law_tie : List Str := ["_law_row", "_law_things_here", "_law_one", "_law_rest", "_law_way", "_law_other", "_law_k"]
theorem sc__law_tie : FnScope N__law_tie ["_law_row", "_law_things_here"] (defScope s__law_tie) := ⟨rfl, rfl, rfl, by decide +kernel, rfl, by decide +kernel, by decide +kernel⟩
def m__law_tie (ns : List Int) : Sx := (sSeq (sSet 2 (mCallR 0 (F__law_taken ns) (mCons (m1 lenD (mVar 1)) mNil))) (sSeq (sSet 3 (mList (mLc [6] (mRg1 (m1 lenD (mVar 1))) (gNm 6) (mTst (m2 neD (mVar 6) (mVar 2))) (mVar 6)))) (sSeq (sSet 4 (mCallR 0 (F__law_taken ns) (mCons (m2 ixD (mList (mLst (mCons (mC (.int 3)) (mCons (mC (.int 8)) mNil)))) (m1 intD (m2 neD (mVar 3) (mList (mLst mNil))))) mNil))) (sSeq (sIf (mTst (m2 eqD (mVar 4) (mC (.int 0)))) (sSeq (sSet 5 (mCallR 0 (F__law_taken ns) (mCons (m1 lenD (mVar 1)) mNil))) (sRet (mTup (mCons (mC (.str (PySem.Str.ofString "rate"))) (mCons (mVar 2) (mCons (mVar 5) (mCons (mCallR 0 (F__law_taken ns) (mCons (m1 lenD (m2 ixD (m2 ixD (mVar 1) (mVar 5)) (mC (.int 1)))) mNil)) mNil))))))) sNx) (sSeq (sIf (mTst (m2 ltD (mVar 4) (mC (.int 3)))) (sRet (mTup (mCons (m2 ixD (mList (mLst (mCons (mC (.str (PySem.Str.ofString "under"))) (mCons (mC (.str (PySem.Str.ofString "over"))) mNil)))) (m2 subD (mVar 4) (mC (.int 1)))) (mCons (mVar 2) (mCons (mCallR 0 (F__law_taken ns) (mCons (m1 lenD (m2 ixD (m2 ixD (mVar 1) (mVar 2)) (mC (.int 1)))) mNil)) mNil))))) sNx) (sSeq (sSet 5 (m2 ixD (mVar 3) (mCallR 0 (F__law_taken ns) (mCons (m1 lenD (mVar 3)) mNil)))) (sSeq (sIf (mTst (m2 ltD (mVar 4) (mC (.int 6)))) (sRet (mTup (mCons (m2 ixD (mList (mLst (mCons (mC (.str (PySem.Str.ofString "with"))) (mCons (mC (.str (PySem.Str.ofString "against"))) (mCons (mC (.str (PySem.Str.ofString "with"))) mNil))))) (m2 subD (mVar 4) (mC (.int 3)))) (mCons (mVar 2) (mCons (mVar 5) mNil))))) sNx) (sRet (mTup (mCons (m2 ixD (mList (mLst (mCons (mC (.str (PySem.Str.ofString "sum"))) (mCons (mC (.str (PySem.Str.ofString "product"))) mNil)))) (m2 subD (mVar 4) (mC (.int 6)))) (mCons (mVar 2) (mCons (mVar 5) (mCons (m2 ixD (mVar 3) (mCallR 0 (F__law_taken ns) (mCons (m1 lenD (mVar 3)) mNil))) mNil)))))))))))))
def F__law_tie (ns : List Int) : List Vl → Ro → Option (Vl × Ro) := bodyR 7 1 (m__law_tie ns)
theorem ok__law_tie (T : Tx K w mg C) (h : Hr K mg "_law_tie" s__law_tie) (D__law_taken : Dn Pg w K mg base CX0 1 "_law_taken" ["_law_row", "_law_many"] (spR (pm K ns C) (F__law_taken ns))) : Dn Pg w K mg base CX0 2 "_law_tie" ["_law_row", "_law_things_here"] (spR (pm K ns C) (F__law_tie ns)) :=
  dn_R (fx := fun _ => 0) h sc__law_tie (by decide) (by decide) (fun _ _ _ _ _ _ us hl => match us, hl with | [_, _], _ => rfl) (fun f cdv A outer s H E hr => 
    (fss_cons (fs_set (i := 2) rfl (by first | exact Or.inl rfl | exact Or.inr rfl) (fe_callRD D__law_taken (hr.mono (by decide)) (pv 0) (fa_cons (fe_b1 FL.call_lenD ok_len T.n_len (by decide +kernel) (fe_var 1)) fa_nil)) sc__law_tie.nd (Or.inl rfl)) (fss_cons (PS.imp (st_lc (i := 3) rfl rfl (sw_true rfl rfl rfl (by decide +kernel)) (fi_rg1 (fe_b1 FL.call_lenD ok_len T.n_len (by decide +kernel) (fe_var 1)) T.n_range) (blkOk_by (own := [("_law_k", 6)]) (N := N__law_tie) (sc := defScope s__law_tie) (by decide +kernel)) rfl (gok_name 6) (fun _ _ _ _ _ => (pg_name (i := 6) sc__law_tie.nd rfl (by first | exact Or.inl rfl | exact Or.inr rfl) (by first | exact Or.inl rfl | exact Or.inr rfl))) (fun _ _ _ _ _ => (fts_one (ft_cmp (op_neDD (hu64 hr)) ok_ne (fe_var 6) (fe_var 2) (nomark _)))) (fun _ _ _ _ _ => (fe_var 6)) sc__law_tie.nd) (tS_set fun _ _ _ h => tE_list h)) (fss_cons (fs_set (i := 4) rfl (by first | exact Or.inl rfl | exact Or.inr rfl) (fe_callRD D__law_taken (hr.mono (by decide)) (pv 0) (fa_cons (fe_ix (fe_list (fl_lst (fa_cons fe_int (fa_cons fe_int fa_nil)))) (fe_t1 FL.call_intD ok_int T.n_int (by decide +kernel) (fe_cmp (op_neDD (hu64 hr)) ok_ne (fe_var 3) (fe_list (fl_lst fa_nil)) (nomark _)))) fa_nil)) sc__law_tie.nd (Or.inl rfl)) (fss_cons (fs_if (ft_cmp (op_eqDD (hu64 hr)) ok_eq (fe_var 4) fe_int (nomark _)) (fss_cons (fs_set (i := 5) rfl (by first | exact Or.inl rfl | exact Or.inr rfl) (fe_callRD D__law_taken (hr.mono (by decide)) (pv 0) (fa_cons (fe_b1 FL.call_lenD ok_len T.n_len (by decide +kernel) (fe_var 1)) fa_nil)) sc__law_tie.nd (Or.inl rfl)) (fss_one (fs_ret (fe_tup (fa_cons fe_str (fa_cons (fe_var 2) (fa_cons (fe_var 5) (fa_cons (fe_callRD D__law_taken (hr.mono (by decide)) (pv 0) (fa_cons (fe_b1 FL.call_lenD ok_len T.n_len (by decide +kernel) (fe_ix (fe_ix (fe_var 1) (fe_var 5)) fe_int)) fa_nil)) fa_nil)))))))) fss_nil) (fss_cons (fs_if (ft_cmp op_lt ok_lt (fe_var 4) fe_int (nomark _)) (fss_one (fs_ret (fe_tup (fa_cons (fe_ix (fe_list (fl_lst (fa_cons fe_str (fa_cons fe_str fa_nil)))) (fe_op op_sub ok_sub (fe_var 4) fe_int)) (fa_cons (fe_var 2) (fa_cons (fe_callRD D__law_taken (hr.mono (by decide)) (pv 0) (fa_cons (fe_b1 FL.call_lenD ok_len T.n_len (by decide +kernel) (fe_ix (fe_ix (fe_var 1) (fe_var 2)) fe_int)) fa_nil)) fa_nil)))))) fss_nil) (fss_cons (fs_set (i := 5) rfl (by first | exact Or.inl rfl | exact Or.inr rfl) (fe_ix (fe_var 3) (fe_callRD D__law_taken (hr.mono (by decide)) (pv 0) (fa_cons (fe_b1 FL.call_lenD ok_len T.n_len (by decide +kernel) (fe_var 3)) fa_nil))) sc__law_tie.nd (Or.inl rfl)) (fss_cons (fs_if (ft_cmp op_lt ok_lt (fe_var 4) fe_int (nomark _)) (fss_one (fs_ret (fe_tup (fa_cons (fe_ix (fe_list (fl_lst (fa_cons fe_str (fa_cons fe_str (fa_cons fe_str fa_nil))))) (fe_op op_sub ok_sub (fe_var 4) fe_int)) (fa_cons (fe_var 2) (fa_cons (fe_var 5) fa_nil)))))) fss_nil) (fss_one (fs_ret (fe_tup (fa_cons (fe_ix (fe_list (fl_lst (fa_cons fe_str (fa_cons fe_str fa_nil)))) (fe_op op_sub ok_sub (fe_var 4) fe_int)) (fa_cons (fe_var 2) (fa_cons (fe_var 5) (fa_cons (fe_ix (fe_var 3) (fe_callRD D__law_taken (hr.mono (by decide)) (pv 0) (fa_cons (fe_b1 FL.call_lenD ok_len T.n_len (by decide +kernel) (fe_var 3)) fa_nil))) fa_nil)))))))))))))))
abbrev s__law_ties : Stmt := topS 46
abbrev N__law_ties : List Str := ["_law_row", "_law_things_here", "_law_most", "_law_k"]
theorem sc__law_ties : FnScope N__law_ties ["_law_row", "_law_things_here", "_law_most"] (defScope s__law_ties) := ⟨rfl, rfl, rfl, by decide +kernel, rfl, by decide +kernel, by decide +kernel⟩
def m__law_ties (ns : List Int) : Sx := (sRet (mList (mLc [3] (mRg1 (mCallR 0 (F__law_taken ns) (mCons (m2 ixD (mList (mLst (mCons (mC (.int 3)) (mCons (m2 addD (mVar 2) (mC (.int 1))) mNil)))) (mCallR 0 (F__law_taken ns) (mCons (mC (.int 2)) mNil))) mNil))) (gNm 3) mYes (mCallR 0 (F__law_tie ns) (mCons (mVar 1) mNil)))))
def F__law_ties (ns : List Int) : List Vl → Ro → Option (Vl × Ro) := bodyR 4 2 (m__law_ties ns)
theorem ok__law_ties (T : Tx K w mg C) (h : Hr K mg "_law_ties" s__law_ties) (D__law_taken : Dn Pg w K mg base CX0 1 "_law_taken" ["_law_row", "_law_many"] (spR (pm K ns C) (F__law_taken ns))) (D__law_tie : Dn Pg w K mg base CX0 2 "_law_tie" ["_law_row", "_law_things_here"] (spR (pm K ns C) (F__law_tie ns))) : Dn Pg w K mg base CX0 3 "_law_ties" ["_law_row", "_law_things_here", "_law_most"] (spR (pm K ns C) (F__law_ties ns)) :=
  dn_R (fx := fun _ => 0) h sc__law_ties (by decide) (by decide) (fun _ _ _ _ _ _ us hl => match us, hl with | [_, _, _], _ => rfl) (fun f cdv A outer s H E hr => 
    (fss_one (fs_ret (fe_list (fl_lc (fi_rg1 (fe_callRD D__law_taken (hr.mono (by decide)) (pv 0) (fa_cons (fe_ix (fe_list (fl_lst (fa_cons fe_int (fa_cons (fe_op op_addD ok_add (fe_var 2) fe_int) fa_nil)))) (fe_callRD D__law_taken (hr.mono (by decide)) (pv 0) (fa_cons fe_int fa_nil))) fa_nil)) T.n_range) (blkOk_by (own := [("_law_k", 3)]) (N := N__law_ties) (sc := defScope s__law_ties) (by decide +kernel)) rfl (gok_name 3) (fun _ _ _ _ _ => (pg_name (i := 3) sc__law_ties.nd rfl (by first | exact Or.inl rfl | exact Or.inr rfl) (by first | exact Or.inl rfl | exact Or.inr rfl))) (fun _ _ _ _ _ => fts_nil) (fun _ _ _ _ _ => (fe_callRD D__law_tie (hr.mono (by decide)) (pv 0) (fa_cons (fe_var 1) fa_nil))) sc__law_ties.nd)))))
abbrev s__law_keeps : Stmt := topS 47
abbrev N__law_keeps : List Str := ["_law_tie_here", "_law_room", "_law_word", "_law_trend", "_law_far", "_law_other", "_law_last", "_law_tried", "_law_one"]
theorem sc__law_keeps : FnScope N__law_keeps ["_law_tie_here", "_law_room"] (defScope s__law_keeps) := ⟨rfl, rfl, rfl, by decide +kernel, rfl, by decide +kernel, by decide +kernel⟩
def m__law_keeps : Sx := (sSeq (sSet 2 (m2 ixD (mVar 0) (mC (.int 0)))) (sSeq (sSet 3 (m2 ixD (m2 ixD (mVar 1) (m2 ixD (mVar 0) (mC (.int 1)))) (mC (.int 1)))) (sSeq (sIf (mTst (m2 inD (mVar 2) (mTup (mCons (mC (.str (PySem.Str.ofString "under"))) (mCons (mC (.str (PySem.Str.ofString "over"))) mNil))))) (sSeq (sSet 4 (m2 subD (m2 subD (m2 ixD (m2 ixD (mVar 1) (m2 ixD (mVar 0) (mC (.int 1)))) (mC (.int 0))) (m2 mulD (mC (.int 2)) (m2 ixD (mVar 0) (mC (.int 2))))) (mC (.int 1)))) (sRet (m2 leD (m2 mulD (mVar 4) (m2 ixD (mList (mLst (mCons (mC (.int 1)) (mCons (m2 subD (mC (.int 0)) (mC (.int 1))) mNil)))) (m1 intD (m2 eqD (mVar 2) (mC (.str (PySem.Str.ofString "over"))))))) (mC (.int 0))))) sNx) (sSeq (sIf (mTst (m2 eqD (mVar 2) (mC (.str (PySem.Str.ofString "rate"))))) (sSeq (sSet 4 (m2 subD (m2 subD (m2 ixD (m2 ixD (mVar 1) (m2 ixD (mVar 0) (mC (.int 2)))) (mC (.int 0))) (m2 mulD (mC (.int 2)) (m2 ixD (mVar 0) (mC (.int 3))))) (mC (.int 1)))) (sRet (mOrV (m2 gtD (m2 mulD (mVar 3) (mVar 4)) (mC (.int 0))) (mAndV (m2 eqD (mVar 3) (mC (.int 0))) (m2 eqD (mVar 4) (mC (.int 0))))))) sNx) (sSeq (sSet 5 (m2 ixD (m2 ixD (mVar 1) (m2 ixD (mVar 0) (mC (.int 2)))) (mC (.int 1)))) (sSeq (sIf (mTst (m2 inD (mVar 2) (mTup (mCons (mC (.str (PySem.Str.ofString "with"))) (mCons (mC (.str (PySem.Str.ofString "against"))) mNil))))) (sRet (m2 eqD (mVar 3) (m2 mulD (mVar 5) (m2 ixD (mList (mLst (mCons (mC (.int 1)) (mCons (m2 subD (mC (.int 0)) (mC (.int 1))) mNil)))) (m1 intD (m2 eqD (mVar 2) (mC (.str (PySem.Str.ofString "against"))))))))) sNx) (sSeq (sSet 6 (m2 ixD (m2 ixD (mVar 1) (m2 ixD (mVar 0) (mC (.int 3)))) (mC (.int 1)))) (sSeq (sIf (mTst (m2 eqD (mVar 2) (mC (.str (PySem.Str.ofString "product"))))) (sRet (m2 eqD (mVar 3) (m2 mulD (mVar 5) (mVar 6)))) sNx) (sSeq (sSet 7 (mList (mLst (mCons (m2 addD (mVar 5) (mVar 6)) (mCons (m2 addD (mVar 5) (m2 mulD (mC (.int 2)) (mVar 6))) (mCons (m2 addD (m2 mulD (mC (.int 2)) (mVar 5)) (mVar 6)) mNil)))))) (sRet (m2 neD (mList (mLc [8] (mSeq (mVar 7)) (gNm 8) (mOr (mTst (m2 gtD (m2 mulD (mVar 8) (mVar 3)) (mC (.int 0)))) (mAnd (mTst (m2 eqD (mVar 8) (mC (.int 0)))) (mTst (m2 eqD (mVar 3) (mC (.int 0)))))) (mVar 8))) (mList (mLst mNil)))))))))))))
def F__law_keeps : List Vl → Option Vl := bodyP 9 2 (m__law_keeps)
theorem ok__law_keeps (T : Tx K w mg C) (h : Hr K mg "_law_keeps" s__law_keeps) : Dn Pg w K mg base CX0 1 "_law_keeps" ["_law_tie_here", "_law_room"] (spP (pm K ns C) F__law_keeps) :=
  dn_P (fx := fun _ => 0) h sc__law_keeps (by decide) (fun _ _ _ _ _ _ us hl => match us, hl with | [_, _], _ => rfl) (fun f cdv A outer s H E hr => 
    (fss_cons (fs_set (i := 2) rfl (by first | exact Or.inl rfl | exact Or.inr rfl) (fe_ix (fe_var 0) fe_int) sc__law_keeps.nd (Or.inl rfl)) (fss_cons (fs_set (i := 3) rfl (by first | exact Or.inl rfl | exact Or.inr rfl) (fe_ix (fe_ix (fe_var 1) (fe_ix (fe_var 0) fe_int)) fe_int) sc__law_keeps.nd (Or.inl rfl)) (fss_cons (fs_if (ft_cmp (op_inDD (hu65 hr)) ok_in (fe_var 2) (fe_tup (fa_cons fe_str (fa_cons fe_str fa_nil))) (by with_unfolding_all rfl)) (fss_cons (fs_set (i := 4) rfl (by first | exact Or.inl rfl | exact Or.inr rfl) (fe_op op_sub ok_sub (fe_op op_sub ok_sub (fe_ix (fe_ix (fe_var 1) (fe_ix (fe_var 0) fe_int)) fe_int) (fe_op op_mulD ok_mul fe_int (fe_ix (fe_var 0) fe_int))) fe_int) sc__law_keeps.nd (Or.inl rfl)) (fss_one (fs_ret (fe_cmp op_le ok_le (fe_op op_mulD ok_mul (fe_var 4) (fe_ix (fe_list (fl_lst (fa_cons fe_int (fa_cons (fe_op op_sub ok_sub fe_int fe_int) fa_nil)))) (fe_t1 FL.call_intD ok_int T.n_int (by decide +kernel) (fe_cmp (op_eqDD (hu64 hr)) ok_eq (fe_var 2) fe_str (nomark _))))) fe_int (nomark _))))) fss_nil) (fss_cons (fs_if (ft_cmp (op_eqDD (hu64 hr)) ok_eq (fe_var 2) fe_str (nomark _)) (fss_cons (fs_set (i := 4) rfl (by first | exact Or.inl rfl | exact Or.inr rfl) (fe_op op_sub ok_sub (fe_op op_sub ok_sub (fe_ix (fe_ix (fe_var 1) (fe_ix (fe_var 0) fe_int)) fe_int) (fe_op op_mulD ok_mul fe_int (fe_ix (fe_var 0) fe_int))) fe_int) sc__law_keeps.nd (Or.inl rfl)) (fss_one (fs_ret (fe_or (fe_cmp op_gt ok_gt (fe_op op_mulD ok_mul (fe_var 3) (fe_var 4)) fe_int (nomark _)) (fe_one (fe_and (fe_cmp (op_eqDD (hu64 hr)) ok_eq (fe_var 3) fe_int (nomark _)) (fe_one (fe_cmp (op_eqDD (hu64 hr)) ok_eq (fe_var 4) fe_int (nomark _))))))))) fss_nil) (fss_cons (fs_set (i := 5) rfl (by first | exact Or.inl rfl | exact Or.inr rfl) (fe_ix (fe_ix (fe_var 1) (fe_ix (fe_var 0) fe_int)) fe_int) sc__law_keeps.nd (Or.inl rfl)) (fss_cons (fs_if (ft_cmp (op_inDD (hu65 hr)) ok_in (fe_var 2) (fe_tup (fa_cons fe_str (fa_cons fe_str fa_nil))) (by with_unfolding_all rfl)) (fss_one (fs_ret (fe_cmp (op_eqDD (hu64 hr)) ok_eq (fe_var 3) (fe_op op_mulD ok_mul (fe_var 5) (fe_ix (fe_list (fl_lst (fa_cons fe_int (fa_cons (fe_op op_sub ok_sub fe_int fe_int) fa_nil)))) (fe_t1 FL.call_intD ok_int T.n_int (by decide +kernel) (fe_cmp (op_eqDD (hu64 hr)) ok_eq (fe_var 2) fe_str (nomark _))))) (nomark _)))) fss_nil) (fss_cons (fs_set (i := 6) rfl (by first | exact Or.inl rfl | exact Or.inr rfl) (fe_ix (fe_ix (fe_var 1) (fe_ix (fe_var 0) fe_int)) fe_int) sc__law_keeps.nd (Or.inl rfl)) (fss_cons (fs_if (ft_cmp (op_eqDD (hu64 hr)) ok_eq (fe_var 2) fe_str (nomark _)) (fss_one (fs_ret (fe_cmp (op_eqDD (hu64 hr)) ok_eq (fe_var 3) (fe_op op_mulD ok_mul (fe_var 5) (fe_var 6)) (nomark _)))) fss_nil) (fss_cons (fs_set (i := 7) rfl (by first | exact Or.inl rfl | exact Or.inr rfl) (fe_list (fl_lst (fa_cons (fe_op op_addD ok_add (fe_var 5) (fe_var 6)) (fa_cons (fe_op op_addD ok_add (fe_var 5) (fe_op op_mulD ok_mul fe_int (fe_var 6))) (fa_cons (fe_op op_addD ok_add (fe_op op_mulD ok_mul fe_int (fe_var 5)) (fe_var 6)) fa_nil))))) sc__law_keeps.nd (Or.inl rfl)) (fss_one (fs_ret (fe_cmp (op_neDD (hu64 hr)) ok_ne (fe_list (fl_lc (fi_seq (fe_var 7)) (blkOk_by (own := [("_law_one", 8)]) (N := N__law_keeps) (sc := defScope s__law_keeps) (by decide +kernel)) rfl (gok_name 8) (fun _ _ _ _ _ => (pg_name (i := 8) sc__law_keeps.nd rfl (by first | exact Or.inl rfl | exact Or.inr rfl) (by first | exact Or.inl rfl | exact Or.inr rfl))) (fun _ _ _ _ _ => (fts_one (ft_w (fw_or (ft_cmp op_gt ok_gt (fe_op op_mulD ok_mul (fe_var 8) (fe_var 3)) fe_int (nomark _)) (fw_or1 (ft_w (fw_and (ft_cmp (op_eqDD (hu64 hr)) ok_eq (fe_var 8) fe_int (nomark _)) (fw_and1 (ft_cmp (op_eqDD (hu64 hr)) ok_eq (fe_var 3) fe_int (nomark _)))))))))) (fun _ _ _ _ _ => (fe_var 8)) sc__law_keeps.nd)) (fe_list (fl_lst fa_nil)) (nomark _))))))))))))))
abbrev s__law_first : Stmt := topS 48
abbrev N__law_first : List Str := ["_law_ties_here", "_law_room", "_law_number"]
theorem sc__law_first : FnScope N__law_first ["_law_ties_here", "_law_room"] (defScope s__law_first) := ⟨rfl, rfl, rfl, by decide +kernel, rfl, by decide +kernel, by decide +kernel⟩
def m__law_first : Sx := (sSeq (sFor (mRg1 (m1 lenD (mVar 0))) (gNm 2) (sIf (mNot (mTst (mCall F__law_keeps (mCons (m2 ixD (mVar 0) (mVar 2)) (mCons (mVar 1) mNil))))) (sRet (mVar 2)) sNx)) (sRet (mC .none)))
def F__law_first : List Vl → Option Vl := bodyP 3 2 (m__law_first)
theorem ok__law_first (T : Tx K w mg C) (h : Hr K mg "_law_first" s__law_first) (D__law_keeps : Dn Pg w K mg base CX0 1 "_law_keeps" ["_law_tie_here", "_law_room"] (spP (pm K ns C) F__law_keeps)) : Dn Pg w K mg base CX0 2 "_law_first" ["_law_ties_here", "_law_room"] (spP (pm K ns C) F__law_first) :=
  dn_P (fx := fun _ => 0) h sc__law_first (by decide) (fun _ _ _ _ _ _ us hl => match us, hl with | [_, _], _ => rfl) (fun f cdv A outer s H E hr => 
    (fss_cons (fs_for (fi_rg1 (fe_b1 FL.call_lenD ok_len T.n_len (by decide +kernel) (fe_var 0)) T.n_range) (pg_name (i := 2) sc__law_first.nd rfl (by first | exact Or.inl rfl | exact Or.inr rfl) (by first | exact Or.inl rfl | exact Or.inr rfl)) (gok_name 2) (fss_one (fs_if (ft_not (ft_val (fe_callD D__law_keeps (hr.mono (by decide)) (fa_cons (fe_ix (fe_var 0) (fe_var 2)) (fa_cons (fe_var 1) fa_nil))))) (fss_one (fs_ret (fe_var 2))) fss_nil)) PassesOwn.never) (fss_one (fs_ret fe_non))))
abbrev s__law_kept : Stmt := topS 53
abbrev N__law_kept : List Str := ["_law_ties_here", "_law_every", "_law_number", "_law_tie_here"]
theorem sc__law_kept : FnScope N__law_kept ["_law_ties_here", "_law_every"] (defScope s__law_kept) := ⟨rfl, rfl, rfl, by decide +kernel, rfl, by decide +kernel, by decide +kernel⟩
def m__law_kept : Sx := (sSeq (sFor (mRg1 (m1 lenD (mVar 1))) (gNm 2) (sSeq (sSet 3 (mCall F__law_first (mCons (mVar 0) (mCons (m2 ixD (mVar 1) (mVar 2)) mNil)))) (sIf (mTst (m2 notND (mVar 3) (mC .none))) (sRet (mTup (mCons (mVar 2) (mCons (mVar 3) mNil)))) sNx))) (sRet (mC .none)))
def F__law_kept : List Vl → Option Vl := bodyP 4 2 (m__law_kept)
theorem ok__law_kept (T : Tx K w mg C) (h : Hr K mg "_law_kept" s__law_kept) (D__law_first : Dn Pg w K mg base CX0 2 "_law_first" ["_law_ties_here", "_law_room"] (spP (pm K ns C) F__law_first)) : Dn Pg w K mg base CX0 3 "_law_kept" ["_law_ties_here", "_law_every"] (spP (pm K ns C) F__law_kept) :=
  dn_P (fx := fun _ => 0) h sc__law_kept (by decide) (fun _ _ _ _ _ _ us hl => match us, hl with | [_, _], _ => rfl) (fun f cdv A outer s H E hr => 
    (fss_cons (fs_for (fi_rg1 (fe_b1 FL.call_lenD ok_len T.n_len (by decide +kernel) (fe_var 1)) T.n_range) (pg_name (i := 2) sc__law_kept.nd rfl (by first | exact Or.inl rfl | exact Or.inr rfl) (by first | exact Or.inl rfl | exact Or.inr rfl)) (gok_name 2) (fss_cons (fs_set (i := 3) rfl (by first | exact Or.inl rfl | exact Or.inr rfl) (fe_callD D__law_first (hr.mono (by decide)) (fa_cons (fe_var 0) (fa_cons (fe_ix (fe_var 1) (fe_var 2)) fa_nil))) sc__law_kept.nd (Or.inl rfl)) (fss_one (fs_if (ft_cmp op_notN ok_notN (fe_var 3) fe_non (nomark _)) (fss_one (fs_ret (fe_tup (fa_cons (fe_var 2) (fa_cons (fe_var 3) fa_nil))))) fss_nil))) PassesOwn.never) (fss_one (fs_ret fe_non))))
abbrev s__law_spot : Stmt := topS 50
abbrev N__law_spot : List Str := ["_law_marks_here", "_law_begin", "_law_far", "_law_parts", "_law_time", "_law_number", "_law_place", "_law_mark"]
theorem sc__law_spot : FnScope N__law_spot ["_law_marks_here", "_law_begin", "_law_far", "_law_parts", "_law_time"] (defScope s__law_spot) := ⟨rfl, rfl, rfl, by decide +kernel, rfl, by decide +kernel, by decide +kernel⟩
def m__law_spot : Sx := (sSeq (sSet 5 (m2 addD (m2 mulD (mVar 1) (mVar 3)) (m2 mulD (mVar 2) (mVar 4)))) (sSeq (sSet 6 (mC (.int 0))) (sSeq (sFor (mSeq (mVar 0)) (gNm 7) (sSet 6 (m2 addD (m2 addD (mVar 6) (m1 intD (m2 ltD (m2 mulD (mVar 7) (mVar 3)) (mVar 5)))) (m1 intD (m2 leD (m2 mulD (mVar 7) (mVar 3)) (mVar 5)))))) (sRet (mTup (mCons (mVar 6) (mCons (m2 subD (m1 intD (m2 gtD (mVar 2) (mC (.int 0)))) (m1 intD (m2 ltD (mVar 2) (mC (.int 0))))) mNil)))))))
def F__law_spot : List Vl → Option Vl := bodyP 8 5 (m__law_spot)
theorem ok__law_spot (T : Tx K w mg C) (h : Hr K mg "_law_spot" s__law_spot) : Dn Pg w K mg base CX0 1 "_law_spot" ["_law_marks_here", "_law_begin", "_law_far", "_law_parts", "_law_time"] (spP (pm K ns C) F__law_spot) :=
  dn_P (fx := fun _ => 0) h sc__law_spot (by decide) (fun _ _ _ _ _ _ us hl => match us, hl with | [_, _, _, _, _], _ => rfl) (fun f cdv A outer s H E hr => 
    (fss_cons (fs_set (i := 5) rfl (by first | exact Or.inl rfl | exact Or.inr rfl) (fe_op op_addD ok_add (fe_op op_mulD ok_mul (fe_var 1) (fe_var 3)) (fe_op op_mulD ok_mul (fe_var 2) (fe_var 4))) sc__law_spot.nd (Or.inl rfl)) (fss_cons (fs_set (i := 6) rfl (by first | exact Or.inl rfl | exact Or.inr rfl) fe_int sc__law_spot.nd (Or.inl rfl)) (fss_cons (fs_for (fi_seq (fe_var 0)) (pg_name (i := 7) sc__law_spot.nd rfl (by first | exact Or.inl rfl | exact Or.inr rfl) (by first | exact Or.inl rfl | exact Or.inr rfl)) (gok_name 7) (fss_one (fs_set (i := 6) rfl (by first | exact Or.inl rfl | exact Or.inr rfl) (fe_op op_addD ok_add (fe_op op_addD ok_add (fe_var 6) (fe_t1 FL.call_intD ok_int T.n_int (by decide +kernel) (fe_cmp op_lt ok_lt (fe_op op_mulD ok_mul (fe_var 7) (fe_var 3)) (fe_var 5) (nomark _)))) (fe_t1 FL.call_intD ok_int T.n_int (by decide +kernel) (fe_cmp op_le ok_le (fe_op op_mulD ok_mul (fe_var 7) (fe_var 3)) (fe_var 5) (nomark _)))) sc__law_spot.nd (Or.inl rfl))) PassesOwn.never) (fss_one (fs_ret (fe_tup (fa_cons (fe_var 6) (fa_cons (fe_op op_sub ok_sub (fe_t1 FL.call_intD ok_int T.n_int (by decide +kernel) (fe_cmp op_gt ok_gt (fe_var 2) fe_int (nomark _))) (fe_t1 FL.call_intD ok_int T.n_int (by decide +kernel) (fe_cmp op_lt ok_lt (fe_var 2) fe_int (nomark _)))) fa_nil)))))))))
abbrev s__law_hour_of : Stmt := topS 51
abbrev N__law_hour_of : List Str := ["_law_things_here", "_law_begin", "_law_end", "_law_fars", "_law_parts", "_law_far", "_law_times", "_law_k", "_law_mark", "_law_found", "_law_time", "_law_room", "_law_j"]
theorem sc__law_hour_of : FnScope N__law_hour_of ["_law_things_here", "_law_begin", "_law_end"] (defScope s__law_hour_of) := ⟨rfl, rfl, rfl, by decide +kernel, rfl, by decide +kernel, by decide +kernel⟩
def m__law_hour_of : Sx := (sSeq (sSet 3 (mList (mLc [7] (mRg1 (m1 lenD (mVar 0))) (gNm 7) mYes (m2 subD (m2 ixD (mVar 2) (mVar 7)) (m2 ixD (mVar 1) (mVar 7)))))) (sSeq (sSet 4 (mC (.int 2))) (sSeq (sFor (mSeq (mVar 3)) (gNm 5) (sSet 4 (m2 mulD (mVar 4) (m2 max2D (mC (.int 1)) (m1 absD (mVar 5)))))) (sSeq (sOwn 6 (mLst (mCons (mC (.int 0)) (mCons (mVar 4) mNil)))) (sSeq (sFor (mRg1 (m1 lenD (mVar 0))) (gNm 7) (sFor (mSeq (m2 ixD (m2 ixD (mVar 0) (mVar 7)) (mC (.int 1)))) (gNm 8) (sIf (mTst (m2 neD (m2 ixD (mVar 3) (mVar 7)) (mC (.int 0)))) (sApp 6 (m2 max2D (mC (.int 0)) (m2 min2D (mVar 4) (m2 mulD (m2 subD (mVar 8) (m2 ixD (mVar 1) (mVar 7))) (m2 fdvnD (mVar 4) (m2 ixD (mVar 3) (mVar 7))))))) sNx))) (sSeq (sFrz 6 (sSet 6 (m1 sortSetI (mVar 6)))) (sSeq (sOwn 9 (mLst mNil)) (sSeq (sFrz 6 (sFor (mRg2 (mC (.int 1)) (m1 lenD (mVar 6))) (gNm 7) (sSeq (sSet 10 (m2 fdivD (m2 addD (mIxV 6 (m2 subD (mVar 7) (mC (.int 1)))) (mIxV 6 (mVar 7))) (mC (.int 2)))) (sSeq (sSet 11 (mList (mLc [12] (mRg1 (m1 lenD (mVar 0))) (gNm 12) mYes (mCall F__law_spot (mCons (m2 ixD (m2 ixD (mVar 0) (mVar 12)) (mC (.int 1))) (mCons (m2 ixD (mVar 1) (mVar 12)) (mCons (m2 ixD (mVar 3) (mVar 12)) (mCons (mVar 4) (mCons (mVar 10) mNil))))))))) (sApp 9 (m1 tupleD (mVar 11))))))) (sRetO 9)))))))))
def F__law_hour_of : List Vl → Option Vl := bodyP 13 3 (m__law_hour_of)
theorem ok__law_hour_of (T : Tx K w mg C) (h : Hr K mg "_law_hour_of" s__law_hour_of) (D__law_spot : Dn Pg w K mg base CX0 1 "_law_spot" ["_law_marks_here", "_law_begin", "_law_far", "_law_parts", "_law_time"] (spP (pm K ns C) F__law_spot)) : Dn Pg w K mg base CX0 2 "_law_hour_of" ["_law_things_here", "_law_begin", "_law_end"] (spP (pm K ns C) F__law_hour_of) :=
  dn_P (fx := fun _ => 0) h sc__law_hour_of (by decide) (fun _ _ _ _ _ _ us hl => match us, hl with | [_, _, _], _ => rfl) (fun f cdv A outer s H E hr => 
    (fss_cons (fs_set (i := 3) rfl (by first | exact Or.inl rfl | exact Or.inr rfl) (fe_list (fl_lc (fi_rg1 (fe_b1 FL.call_lenD ok_len T.n_len (by decide +kernel) (fe_var 0)) T.n_range) (blkOk_by (own := [("_law_k", 7)]) (N := N__law_hour_of) (sc := defScope s__law_hour_of) (by decide +kernel)) rfl (gok_name 7) (fun _ _ _ _ _ => (pg_name (i := 7) sc__law_hour_of.nd rfl (by first | exact Or.inl rfl | exact Or.inr rfl) (by first | exact Or.inl rfl | exact Or.inr rfl))) (fun _ _ _ _ _ => fts_nil) (fun _ _ _ _ _ => (fe_op op_sub ok_sub (fe_ix (fe_var 2) (fe_var 7)) (fe_ix (fe_var 1) (fe_var 7)))) sc__law_hour_of.nd)) sc__law_hour_of.nd (Or.inl rfl)) (fss_cons (fs_set (i := 4) rfl (by first | exact Or.inl rfl | exact Or.inr rfl) fe_int sc__law_hour_of.nd (Or.inl rfl)) (fss_cons (fs_for (fi_seq (fe_var 3)) (pg_name (i := 5) sc__law_hour_of.nd rfl (by first | exact Or.inl rfl | exact Or.inr rfl) (by first | exact Or.inl rfl | exact Or.inr rfl)) (gok_name 5) (fss_one (fs_set (i := 4) rfl (by first | exact Or.inl rfl | exact Or.inr rfl) (fe_op op_mulD ok_mul (fe_var 4) (fe_b2 (call_max2 rfl) ok_max2 T.n_max (by decide +kernel) fe_int (fe_b1 call_abs ok_abs T.n_abs (by decide +kernel) (fe_var 5)))) sc__law_hour_of.nd (Or.inl rfl))) PassesOwn.never) (fss_cons (fs_own (i := 6) rfl (by first | exact Or.inl rfl | exact Or.inr rfl) (fl_lst (fa_cons fe_int (fa_cons (fe_var 4) fa_nil))) sc__law_hour_of.nd (Or.inl rfl)) (fss_cons (fs_for (fi_rg1 (fe_b1 FL.call_lenD ok_len T.n_len (by decide +kernel) (fe_var 0)) T.n_range) (pg_name (i := 7) sc__law_hour_of.nd rfl (by first | exact Or.inl rfl | exact Or.inr rfl) (by first | exact Or.inl rfl | exact Or.inr rfl)) (gok_name 7) (fss_one (fs_for (fi_seq (fe_ix (fe_ix (fe_var 0) (fe_var 7)) fe_int)) (pg_name (i := 8) sc__law_hour_of.nd rfl (by first | exact Or.inl rfl | exact Or.inr rfl) (by first | exact Or.inl rfl | exact Or.inr rfl)) (gok_name 8) (fss_one (fs_if (ft_cmp (op_neDD (hu64 hr)) ok_ne (fe_ix (fe_var 3) (fe_var 7)) fe_int (nomark _)) (fss_one (fs_append (pv 6) (fe_b2 (call_max2 rfl) ok_max2 T.n_max (by decide +kernel) fe_int (fe_b2 (call_min2 rfl) ok_min2 T.n_min (by decide +kernel) (fe_var 4) (fe_op op_mulD ok_mul (fe_op op_sub ok_sub (fe_var 8) (fe_ix (fe_var 1) (fe_var 7))) (fe_op op_fdivN ok_fdvn (fe_var 4) (fe_ix (fe_var 3) (fe_var 7)))))))) fss_nil)) PassesOwn.never)) PassesOwn.never) (fss_cons (fs_frz 6 (fs_set (i := 6) rfl (by first | exact Or.inl rfl | exact Or.inr rfl) (fe_sortSetI (fe_var 6) T.n_sorted T.n_set) sc__law_hour_of.nd (Or.inl rfl))) (fss_cons (fs_own (i := 9) rfl (by first | exact Or.inl rfl | exact Or.inr rfl) (fl_lst fa_nil) sc__law_hour_of.nd (Or.inl rfl)) (fss_cons (fs_frz 6 (fs_for (fi_rg2 fe_int (fe_b1 FL.call_lenD ok_len T.n_len (by decide +kernel) (fe_var 6)) T.n_range) (pg_name (i := 7) sc__law_hour_of.nd rfl (by first | exact Or.inl rfl | exact Or.inr rfl) (by first | exact Or.inl rfl | exact Or.inr rfl)) (gok_name 7) (fss_cons (fs_set (i := 10) rfl (by first | exact Or.inl rfl | exact Or.inr rfl) (fe_op op_fdiv ok_fdiv (fe_op op_addD ok_add (fe_ixV (pv 6) (fe_op op_sub ok_sub (fe_var 7) fe_int)) (fe_ixV (pv 6) (fe_var 7))) fe_int) sc__law_hour_of.nd (Or.inl rfl)) (fss_cons (PS.imp (st_lc (i := 11) rfl rfl (sw_true rfl rfl rfl (by decide +kernel)) (fi_rg1 (fe_b1 FL.call_lenD ok_len T.n_len (by decide +kernel) (fe_var 0)) T.n_range) (blkOk_by (own := [("_law_j", 12)]) (N := N__law_hour_of) (sc := defScope s__law_hour_of) (by decide +kernel)) rfl (gok_name 12) (fun _ _ _ _ _ => (pg_name (i := 12) sc__law_hour_of.nd rfl (by first | exact Or.inl rfl | exact Or.inr rfl) (by first | exact Or.inl rfl | exact Or.inr rfl))) (fun _ _ _ _ _ => fts_nil) (fun _ _ _ _ _ => (fe_callD D__law_spot (hr.mono (by decide)) (fa_cons (fe_ix (fe_ix (fe_var 0) (fe_var 12)) fe_int) (fa_cons (fe_ix (fe_var 1) (fe_var 12)) (fa_cons (fe_ix (fe_var 3) (fe_var 12)) (fa_cons (fe_var 4) (fa_cons (fe_var 10) fa_nil))))))) sc__law_hour_of.nd) (tS_set fun _ _ _ h => tE_list h)) (fss_one (fs_append (pv 9) (fe_t1 FL.call_tupD ok_tuple T.n_tuple (by decide +kernel) (fe_var 11)))))) PassesOwn.never)) (fss_one (fs_retO (pv 9))))))))))))
abbrev s__law_hour : Stmt := topS 54
abbrev N__law_hour : List Str := ["_law_row", "_law_things_here", "_law_ties_here", "_law_begin", "_law_wide", "_law_steps", "_law_turn", "_law_free", "_law_ends", "_law_k", "_law_way", "_law_trends", "_law_good", "_law_number", "_law_j", "_law_end"]
theorem sc__law_hour : FnScope N__law_hour ["_law_row", "_law_things_here", "_law_ties_here", "_law_begin"] (defScope s__law_hour) := ⟨rfl, rfl, rfl, by decide +kernel, rfl, by decide +kernel, by decide +kernel⟩
def m__law_hour (ns : List Int) : Sx := (sSeq (sSet 4 (m2 ixD (mList (mLst (mCons (mC (.int 2)) (mCons (mC (.int 6)) (mCons (mC (.int 40)) mNil))))) (mCallR 0 (F__law_taken ns) (mCons (mC (.int 3)) mNil)))) (sSeq (sSet 5 (mList (mLc [13] (mSeq (mVar 3)) (gNm 13) mYes (m2 addD (mC (.int 1)) (mCallR 0 (F__law_taken ns) (mCons (mVar 4) mNil)))))) (sSeq (sSet 6 (mCallR 0 (F__law_taken ns) (mCons (mC (.int 27)) mNil))) (sSeq (sSet 7 (m2 eqD (mCallR 0 (F__law_taken ns) (mCons (mC (.int 12)) mNil)) (mC (.int 11)))) (sSeq (sOwn 8 (mLst mNil)) (sSeq (sFor (mRg1 (mC (.int 27))) (gNm 9) (sSeq (sSet 10 (m2 modD (m2 addD (mVar 6) (mVar 9)) (mC (.int 27)))) (sSeq (sSet 11 (mList (mLst (mCons (m2 subD (m2 fdivD (mVar 10) (mC (.int 9))) (mC (.int 1))) (mCons (m2 subD (m2 modD (m2 fdivD (mVar 10) (mC (.int 3))) (mC (.int 3))) (mC (.int 1))) (mCons (m2 subD (m2 modD (mVar 10) (mC (.int 3))) (mC (.int 1))) mNil)))))) (sApp 8 (m1 tupleD (mList (mLc [14] (mRg1 (m1 lenD (mVar 3))) (gNm 14) mYes (m2 addD (m2 ixD (mVar 3) (mVar 14)) (m2 mulD (m2 ixD (mVar 11) (mVar 14)) (m2 ixD (mVar 5) (mVar 14))))))))))) (sSeq (sFrz 8 (sSet 12 (mList (mLc [15] (mSeq (mVar 8)) (gNm 15) (mOr (mTst (mVar 7)) (mTst (m2 isND (mCall F__law_kept (mCons (mVar 2) (mCons (mCall F__law_hour_of (mCons (mVar 1) (mCons (mVar 3) (mCons (mVar 15) mNil)))) mNil))) (mC .none)))) (mVar 15))))) (sFrz 8 (sRet (m2 ixD (m2 addD (mVar 12) (mVar 8)) (mC (.int 0))))))))))))
def F__law_hour (ns : List Int) : List Vl → Ro → Option (Vl × Ro) := bodyR 16 3 (m__law_hour ns)
theorem ok__law_hour (T : Tx K w mg C) (h : Hr K mg "_law_hour" s__law_hour) (D__law_kept : Dn Pg w K mg base CX0 3 "_law_kept" ["_law_ties_here", "_law_every"] (spP (pm K ns C) F__law_kept)) (D__law_hour_of : Dn Pg w K mg base CX0 2 "_law_hour_of" ["_law_things_here", "_law_begin", "_law_end"] (spP (pm K ns C) F__law_hour_of)) (D__law_taken : Dn Pg w K mg base CX0 1 "_law_taken" ["_law_row", "_law_many"] (spR (pm K ns C) (F__law_taken ns))) : Dn Pg w K mg base CX0 4 "_law_hour" ["_law_row", "_law_things_here", "_law_ties_here", "_law_begin"] (spR (pm K ns C) (F__law_hour ns)) :=
  dn_R (fx := fun _ => 0) h sc__law_hour (by decide) (by decide) (fun _ _ _ _ _ _ us hl => match us, hl with | [_, _, _, _], _ => rfl) (fun f cdv A outer s H E hr => 
    (fss_cons (fs_set (i := 4) rfl (by first | exact Or.inl rfl | exact Or.inr rfl) (fe_ix (fe_list (fl_lst (fa_cons fe_int (fa_cons fe_int (fa_cons fe_int fa_nil))))) (fe_callRD D__law_taken (hr.mono (by decide)) (pv 0) (fa_cons fe_int fa_nil))) sc__law_hour.nd (Or.inl rfl)) (fss_cons (fs_set (i := 5) rfl (by first | exact Or.inl rfl | exact Or.inr rfl) (fe_list (fl_lc (fi_seq (fe_var 3)) (blkOk_by (own := [("_law_number", 13)]) (N := N__law_hour) (sc := defScope s__law_hour) (by decide +kernel)) rfl (gok_name 13) (fun _ _ _ _ _ => (pg_name (i := 13) sc__law_hour.nd rfl (by first | exact Or.inl rfl | exact Or.inr rfl) (by first | exact Or.inl rfl | exact Or.inr rfl))) (fun _ _ _ _ _ => fts_nil) (fun _ _ _ _ _ => (fe_op op_addD ok_add fe_int (fe_callRD D__law_taken (hr.mono (by decide)) (pv 0) (fa_cons (fe_var 4) fa_nil)))) sc__law_hour.nd)) sc__law_hour.nd (Or.inl rfl)) (fss_cons (fs_set (i := 6) rfl (by first | exact Or.inl rfl | exact Or.inr rfl) (fe_callRD D__law_taken (hr.mono (by decide)) (pv 0) (fa_cons fe_int fa_nil)) sc__law_hour.nd (Or.inl rfl)) (fss_cons (fs_set (i := 7) rfl (by first | exact Or.inl rfl | exact Or.inr rfl) (fe_cmp (op_eqDD (hu64 hr)) ok_eq (fe_callRD D__law_taken (hr.mono (by decide)) (pv 0) (fa_cons fe_int fa_nil)) fe_int (nomark _)) sc__law_hour.nd (Or.inl rfl)) (fss_cons (fs_own (i := 8) rfl (by first | exact Or.inl rfl | exact Or.inr rfl) (fl_lst fa_nil) sc__law_hour.nd (Or.inl rfl)) (fss_cons (fs_for (fi_rg1 fe_int T.n_range) (pg_name (i := 9) sc__law_hour.nd rfl (by first | exact Or.inl rfl | exact Or.inr rfl) (by first | exact Or.inl rfl | exact Or.inr rfl)) (gok_name 9) (fss_cons (fs_set (i := 10) rfl (by first | exact Or.inl rfl | exact Or.inr rfl) (fe_op op_mod ok_mod (fe_op op_addD ok_add (fe_var 6) (fe_var 9)) fe_int) sc__law_hour.nd (Or.inl rfl)) (fss_cons (fs_set (i := 11) rfl (by first | exact Or.inl rfl | exact Or.inr rfl) (fe_list (fl_lst (fa_cons (fe_op op_sub ok_sub (fe_op op_fdiv ok_fdiv (fe_var 10) fe_int) fe_int) (fa_cons (fe_op op_sub ok_sub (fe_op op_mod ok_mod (fe_op op_fdiv ok_fdiv (fe_var 10) fe_int) fe_int) fe_int) (fa_cons (fe_op op_sub ok_sub (fe_op op_mod ok_mod (fe_var 10) fe_int) fe_int) fa_nil))))) sc__law_hour.nd (Or.inl rfl)) (fss_one (fs_append (pv 8) (fe_t1 FL.call_tupD ok_tuple T.n_tuple (by decide +kernel) (fe_list (fl_lc (fi_rg1 (fe_b1 FL.call_lenD ok_len T.n_len (by decide +kernel) (fe_var 3)) T.n_range) (blkOk_by (own := [("_law_j", 14)]) (N := N__law_hour) (sc := defScope s__law_hour) (by decide +kernel)) rfl (gok_name 14) (fun _ _ _ _ _ => (pg_name (i := 14) sc__law_hour.nd rfl (by first | exact Or.inl rfl | exact Or.inr rfl) (by first | exact Or.inl rfl | exact Or.inr rfl))) (fun _ _ _ _ _ => fts_nil) (fun _ _ _ _ _ => (fe_op op_addD ok_add (fe_ix (fe_var 3) (fe_var 14)) (fe_op op_mulD ok_mul (fe_ix (fe_var 11) (fe_var 14)) (fe_ix (fe_var 5) (fe_var 14))))) sc__law_hour.nd))))))) PassesOwn.never) (fss_cons (fs_frz 8 (PS.imp (st_lc (i := 12) rfl rfl (sw_true rfl rfl rfl (by decide +kernel)) (fi_seq (fe_var 8)) (blkOk_by (own := [("_law_end", 15)]) (N := N__law_hour) (sc := defScope s__law_hour) (by decide +kernel)) rfl (gok_name 15) (fun _ _ _ _ _ => (pg_name (i := 15) sc__law_hour.nd rfl (by first | exact Or.inl rfl | exact Or.inr rfl) (by first | exact Or.inl rfl | exact Or.inr rfl))) (fun _ _ _ _ _ => (fts_one (ft_w (fw_or (ft_val (fe_var 7)) (fw_or1 (ft_cmp op_isN ok_isN (fe_callD D__law_kept (hr.mono (by decide)) (fa_cons (fe_var 2) (fa_cons (fe_callD D__law_hour_of (hr.mono (by decide)) (fa_cons (fe_var 1) (fa_cons (fe_var 3) (fa_cons (fe_var 15) fa_nil)))) fa_nil))) fe_non (nomark _))))))) (fun _ _ _ _ _ => (fe_var 15)) sc__law_hour.nd) (tS_set fun _ _ _ h => tE_list h))) (fss_one (fs_frz 8 (fs_ret (fe_ix (fe_op op_addD ok_add (fe_var 12) (fe_var 8)) fe_int))))))))))))
abbrev s__law_rows : Stmt := topS 55
abbrev N__law_rows : List Str := ["_law_row", "_law_things_here", "_law_ties_here", "_law_hours", "_law_begin", "_law_name", "_law_marks_here", "_law_near", "_law_rows_here", "_law_hour_here"]
theorem sc__law_rows : FnScope N__law_rows ["_law_row", "_law_things_here", "_law_ties_here", "_law_hours"] (defScope s__law_rows) := ⟨rfl, rfl, rfl, by decide +kernel, rfl, by decide +kernel, by decide +kernel⟩
def m__law_rows (ns : List Int) : Sx := (sSeq (sOwn 4 (mLst mNil)) (sSeq (sFor (mSeq (mVar 1)) (gTp 2 (gsCons (gNm 5) (gsCons (gNm 6) gsNil))) (sSeq (sSet 7 (m2 subD (m2 addD (m2 ixD (mVar 6) (mCallR 0 (F__law_taken ns) (mCons (m1 lenD (mVar 6)) mNil))) (mCallR 0 (F__law_taken ns) (mCons (mC (.int 7)) mNil))) (mC (.int 3)))) (sApp 4 (m2 ixD (mList (mLst (mCons (mVar 7) (mCons (m2 subD (mCallR 0 (F__law_taken ns) (mCons (mC (.int 241)) mNil)) (mC (.int 120))) mNil)))) (m1 intD (m2 eqD (mCallR 0 (F__law_taken ns) (mCons (mC (.int 5)) mNil)) (mC (.int 4)))))))) (sSeq (sFrz 4 (sOwn 8 (mLst (mCons (m1 tupleD (mVar 4)) mNil)))) (sSeq (sFor (mRg1 (m2 addD (mC (.int 1)) (mCallR 0 (F__law_taken ns) (mCons (mVar 3) mNil)))) (gNm 9) (sApp 8 (mCallR 0 (F__law_hour ns) (mCons (mVar 1) (mCons (mVar 2) (mCons (mIxV 8 (m1 negD (mC (.int 1)))) mNil)))))) (sRetO 8)))))
def F__law_rows (ns : List Int) : List Vl → Ro → Option (Vl × Ro) := bodyR 10 3 (m__law_rows ns)
theorem ok__law_rows (T : Tx K w mg C) (h : Hr K mg "_law_rows" s__law_rows) (D__law_taken : Dn Pg w K mg base CX0 1 "_law_taken" ["_law_row", "_law_many"] (spR (pm K ns C) (F__law_taken ns))) (D__law_hour : Dn Pg w K mg base CX0 4 "_law_hour" ["_law_row", "_law_things_here", "_law_ties_here", "_law_begin"] (spR (pm K ns C) (F__law_hour ns))) : Dn Pg w K mg base CX0 5 "_law_rows" ["_law_row", "_law_things_here", "_law_ties_here", "_law_hours"] (spR (pm K ns C) (F__law_rows ns)) :=
  dn_R (fx := fun _ => 0) h sc__law_rows (by decide) (by decide) (fun _ _ _ _ _ _ us hl => match us, hl with | [_, _, _, _], _ => rfl) (fun f cdv A outer s H E hr => 
    (fss_cons (fs_own (i := 4) rfl (by first | exact Or.inl rfl | exact Or.inr rfl) (fl_lst fa_nil) sc__law_rows.nd (Or.inl rfl)) (fss_cons (fs_for (fi_seq (fe_var 1)) (pg_tup rfl (pgs_cons (pg_name (i := 5) sc__law_rows.nd rfl (by first | exact Or.inl rfl | exact Or.inr rfl) (by first | exact Or.inl rfl | exact Or.inr rfl)) (pgs_cons (pg_name (i := 6) sc__law_rows.nd rfl (by first | exact Or.inl rfl | exact Or.inr rfl) (by first | exact Or.inl rfl | exact Or.inr rfl)) pgs_nil))) (gok_tup 2 (gsok_cons (gok_name 5) (gsok_cons (gok_name 6) gsok_nil))) (fss_cons (fs_set (i := 7) rfl (by first | exact Or.inl rfl | exact Or.inr rfl) (fe_op op_sub ok_sub (fe_op op_addD ok_add (fe_ix (fe_var 6) (fe_callRD D__law_taken (hr.mono (by decide)) (pv 0) (fa_cons (fe_b1 FL.call_lenD ok_len T.n_len (by decide +kernel) (fe_var 6)) fa_nil))) (fe_callRD D__law_taken (hr.mono (by decide)) (pv 0) (fa_cons fe_int fa_nil))) fe_int) sc__law_rows.nd (Or.inl rfl)) (fss_one (fs_append (pv 4) (fe_ix (fe_list (fl_lst (fa_cons (fe_var 7) (fa_cons (fe_op op_sub ok_sub (fe_callRD D__law_taken (hr.mono (by decide)) (pv 0) (fa_cons fe_int fa_nil)) fe_int) fa_nil)))) (fe_t1 FL.call_intD ok_int T.n_int (by decide +kernel) (fe_cmp (op_eqDD (hu64 hr)) ok_eq (fe_callRD D__law_taken (hr.mono (by decide)) (pv 0) (fa_cons fe_int fa_nil)) fe_int (nomark _))))))) PassesOwn.never) (fss_cons (fs_frz 4 (fs_own (i := 8) rfl (by first | exact Or.inl rfl | exact Or.inr rfl) (fl_lst (fa_cons (fe_t1 FL.call_tupD ok_tuple T.n_tuple (by decide +kernel) (fe_var 4)) fa_nil)) sc__law_rows.nd (Or.inl rfl))) (fss_cons (fs_for (fi_rg1 (fe_op op_addD ok_add fe_int (fe_callRD D__law_taken (hr.mono (by decide)) (pv 0) (fa_cons (fe_var 3) fa_nil))) T.n_range) (pg_name (i := 9) sc__law_rows.nd rfl (by first | exact Or.inl rfl | exact Or.inr rfl) (by first | exact Or.inl rfl | exact Or.inr rfl)) (gok_name 9) (fss_one (fs_append (pv 8) (fe_callRD D__law_hour (hr.mono (by decide)) (pv 0) (fa_cons (fe_var 1) (fa_cons (fe_var 2) (fa_cons (fe_ixV (pv 8) (fe_un un_neg ok_neg fe_int)) fa_nil)))))) PassesOwn.never) (fss_one (fs_retO (pv 8))))))))
abbrev s__law_run : Stmt := topS 56
abbrev N__law_run : List Str := ["_law_row", "_law_things_here", "_law_ties_here", "_law_far", "_law_found", "_law_hour_here", "_law_thing"]
theorem sc__law_run : FnScope N__law_run ["_law_row", "_law_things_here", "_law_ties_here"] (defScope s__law_run) := ⟨rfl, rfl, rfl, by decide +kernel, rfl, by decide +kernel, by decide +kernel⟩
def m__law_run (ns : List Int) : Sx := (sSeq (sIf (mTst (m2 eqD (mCallR 0 (F__law_taken ns) (mCons (mC (.int 2)) mNil)) (mC (.int 0)))) (sRet (mCallR 0 (F__law_rows ns) (mCons (mVar 1) (mCons (mVar 2) (mCons (mC (.int 9)) mNil))))) sNx) (sSeq (sSet 3 (m2 ixD (mList (mLst (mCons (mC (.int 6)) (mCons (mC (.int 261)) mNil)))) (mCallR 0 (F__law_taken ns) (mCons (mC (.int 2)) mNil)))) (sSeq (sOwn 4 (mLst mNil)) (sSeq (sFor (mRg1 (m2 addD (mC (.int 2)) (mCallR 0 (F__law_taken ns) (mCons (mC (.int 9)) mNil)))) (gNm 5) (sApp 4 (m1 tupleD (mList (mLc [6] (mSeq (mVar 1)) (gNm 6) mYes (m2 subD (mCallR 0 (F__law_taken ns) (mCons (mVar 3) mNil)) (m2 fdivD (mVar 3) (mC (.int 2))))))))) (sRetO 4)))))
def F__law_run (ns : List Int) : List Vl → Ro → Option (Vl × Ro) := bodyR 7 2 (m__law_run ns)
theorem ok__law_run (T : Tx K w mg C) (h : Hr K mg "_law_run" s__law_run) (D__law_taken : Dn Pg w K mg base CX0 1 "_law_taken" ["_law_row", "_law_many"] (spR (pm K ns C) (F__law_taken ns))) (D__law_rows : Dn Pg w K mg base CX0 5 "_law_rows" ["_law_row", "_law_things_here", "_law_ties_here", "_law_hours"] (spR (pm K ns C) (F__law_rows ns))) : Dn Pg w K mg base CX0 6 "_law_run" ["_law_row", "_law_things_here", "_law_ties_here"] (spR (pm K ns C) (F__law_run ns)) :=
  dn_R (fx := fun _ => 0) h sc__law_run (by decide) (by decide) (fun _ _ _ _ _ _ us hl => match us, hl with | [_, _, _], _ => rfl) (fun f cdv A outer s H E hr => 
    (fss_cons (fs_if (ft_cmp (op_eqDD (hu64 hr)) ok_eq (fe_callRD D__law_taken (hr.mono (by decide)) (pv 0) (fa_cons fe_int fa_nil)) fe_int (nomark _)) (fss_one (fs_ret (fe_callRD D__law_rows (hr.mono (by decide)) (pv 0) (fa_cons (fe_var 1) (fa_cons (fe_var 2) (fa_cons fe_int fa_nil)))))) fss_nil) (fss_cons (fs_set (i := 3) rfl (by first | exact Or.inl rfl | exact Or.inr rfl) (fe_ix (fe_list (fl_lst (fa_cons fe_int (fa_cons fe_int fa_nil)))) (fe_callRD D__law_taken (hr.mono (by decide)) (pv 0) (fa_cons fe_int fa_nil))) sc__law_run.nd (Or.inl rfl)) (fss_cons (fs_own (i := 4) rfl (by first | exact Or.inl rfl | exact Or.inr rfl) (fl_lst fa_nil) sc__law_run.nd (Or.inl rfl)) (fss_cons (fs_for (fi_rg1 (fe_op op_addD ok_add fe_int (fe_callRD D__law_taken (hr.mono (by decide)) (pv 0) (fa_cons fe_int fa_nil))) T.n_range) (pg_name (i := 5) sc__law_run.nd rfl (by first | exact Or.inl rfl | exact Or.inr rfl) (by first | exact Or.inl rfl | exact Or.inr rfl)) (gok_name 5) (fss_one (fs_append (pv 4) (fe_t1 FL.call_tupD ok_tuple T.n_tuple (by decide +kernel) (fe_list (fl_lc (fi_seq (fe_var 1)) (blkOk_by (own := [("_law_thing", 6)]) (N := N__law_run) (sc := defScope s__law_run) (by decide +kernel)) rfl (gok_name 6) (fun _ _ _ _ _ => (pg_name (i := 6) sc__law_run.nd rfl (by first | exact Or.inl rfl | exact Or.inr rfl) (by first | exact Or.inl rfl | exact Or.inr rfl))) (fun _ _ _ _ _ => fts_nil) (fun _ _ _ _ _ => (fe_op op_sub ok_sub (fe_callRD D__law_taken (hr.mono (by decide)) (pv 0) (fa_cons (fe_var 3) fa_nil)) (fe_op op_fdiv ok_fdiv (fe_var 3) fe_int))) sc__law_run.nd))))) PassesOwn.never) (fss_one (fs_retO (pv 4))))))))
abbrev s__law_passed : Stmt := topS 52
abbrev N__law_passed : List Str := ["_law_things_here", "_law_rows_here", "_law_found", "_law_hour_here", "_law_room"]
theorem sc__law_passed : FnScope N__law_passed ["_law_things_here", "_law_rows_here"] (defScope s__law_passed) := ⟨rfl, rfl, rfl, by decide +kernel, rfl, by decide +kernel, by decide +kernel⟩
def m__law_passed : Sx := (sSeq (sOwn 2 (mLst mNil)) (sSeq (sFor (mRg2 (mC (.int 1)) (m1 lenD (mVar 1))) (gNm 3) (sFor (mSeq (mCall F__law_hour_of (mCons (mVar 0) (mCons (m2 ixD (mVar 1) (m2 subD (mVar 3) (mC (.int 1)))) (mCons (m2 ixD (mVar 1) (mVar 3)) mNil))))) (gNm 4) (sIf (mBor 2 (mOr (mTst (m2 eqD (mVar 2) (mList (mLst mNil)))) (mTst (m2 neD (mIxV 2 (m1 negD (mC (.int 1)))) (mVar 4))))) (sApp 2 (mVar 4)) sNx))) (sRetO 2)))
def F__law_passed : List Vl → Option Vl := bodyP 5 2 (m__law_passed)
theorem ok__law_passed (T : Tx K w mg C) (h : Hr K mg "_law_passed" s__law_passed) (D__law_hour_of : Dn Pg w K mg base CX0 2 "_law_hour_of" ["_law_things_here", "_law_begin", "_law_end"] (spP (pm K ns C) F__law_hour_of)) : Dn Pg w K mg base CX0 3 "_law_passed" ["_law_things_here", "_law_rows_here"] (spP (pm K ns C) F__law_passed) :=
  dn_P (fx := fun _ => 0) h sc__law_passed (by decide) (fun _ _ _ _ _ _ us hl => match us, hl with | [_, _], _ => rfl) (fun f cdv A outer s H E hr => 
    (fss_cons (fs_own (i := 2) rfl (by first | exact Or.inl rfl | exact Or.inr rfl) (fl_lst fa_nil) sc__law_passed.nd (Or.inl rfl)) (fss_cons (fs_for (fi_rg2 fe_int (fe_b1 FL.call_lenD ok_len T.n_len (by decide +kernel) (fe_var 1)) T.n_range) (pg_name (i := 3) sc__law_passed.nd rfl (by first | exact Or.inl rfl | exact Or.inr rfl) (by first | exact Or.inl rfl | exact Or.inr rfl)) (gok_name 3) (fss_one (fs_for (fi_seq (fe_callD D__law_hour_of (hr.mono (by decide)) (fa_cons (fe_var 0) (fa_cons (fe_ix (fe_var 1) (fe_op op_sub ok_sub (fe_var 3) fe_int)) (fa_cons (fe_ix (fe_var 1) (fe_var 3)) fa_nil))))) (pg_name (i := 4) sc__law_passed.nd rfl (by first | exact Or.inl rfl | exact Or.inr rfl) (by first | exact Or.inl rfl | exact Or.inr rfl)) (gok_name 4) (fss_one (fs_if (ft_bor 2 (ft_w (fw_or (ft_cmp (op_eqDD (hu64 hr)) ok_eq (fe_var 2) (fe_list (fl_lst fa_nil)) (nomark _)) (fw_or1 (ft_cmp (op_neDD (hu64 hr)) ok_ne (fe_ixV (pv 2) (fe_un un_neg ok_neg fe_int)) (fe_var 4) (nomark _)))))) (fss_one (fs_append (pv 2) (fe_var 4))) fss_nil)) PassesOwn.never)) PassesOwn.never) (fss_one (fs_retO (pv 2))))))
abbrev s_check_run : Stmt := topS 17
abbrev N_check_run : List Str := ["house", "rows", "many", "number", "row"]
theorem sc_check_run : FnScope N_check_run ["house", "rows"] (defScope s_check_run) := ⟨rfl, rfl, rfl, by decide +kernel, rfl, by decide +kernel, by decide +kernel⟩
def m_check_run : Sx := (sSeq (sIf (mTst (m2 ltD (m1 lenD (mVar 1)) (mC (.int 2)))) (FE.sRaise1 2 "row" msg_BadRun (m1 lenD (mVar 1))) sNx) (sSeq (sSet 2 (m1 lenD (mList (mHse F_House_things (mVar 0))))) (sFor (mEn (mVar 1)) (gTp 2 (gsCons (gNm 3) (gsCons (gNm 4) gsNil))) (sIf (mTst (m2 neD (m1 lenD (mVar 4)) (mVar 2))) (FE.sRaise1 2 "row" msg_BadRun (mVar 3)) sNx))))
def F_check_run : List Vl → Option Res := bodyX 5 2 (m_check_run)
theorem ok_check_run (T : Tx K w mg C) (h : Hr K mg "check_run" s_check_run) (D_BadRun : FE.Ox1 Pg w K mg base 1 "BadRun" "row" "row" (fx 2) msg_BadRun) (D_House_things : Dm Pg w K mg base 1 C "things" (spL (pm K ns C) F_House_things)) : Dn Pg w K mg base (L2.CX Pg w) 3 "check_run" ["house", "rows"] (spX (pm K ns C) fx F_check_run) :=
  dn_X h sc_check_run (by decide) (fun _ _ _ _ _ _ us hl => match us, hl with | [_, _], _ => rfl) (fun f cdv A outer s H E hr => have tk := takes_of rfl rfl rfl rfl; 
    (fss_cons (fs_if (ft_cmp op_lt ok_lt (fe_b1 FL.call_lenD ok_len T.n_len (by decide +kernel) (fe_var 1)) (fe_globI T.g_FEWEST_ROWS) (nomark _)) (fss_one (FE.fs_raise1 (c := 2) D_BadRun (hr.mono (by decide)) tk (fe_b1 FL.call_lenD ok_len T.n_len (by decide +kernel) (fe_var 1)))) fss_nil) (fss_cons (fs_set (i := 2) rfl (by first | exact Or.inl rfl | exact Or.inr rfl) (fe_b1 FL.call_lenD ok_len T.n_len (by decide +kernel) (fe_list (fl_hse T.cH D_House_things (hr.mono (by decide)) (fe_var 0)))) sc_check_run.nd (Or.inl rfl)) (fss_one (fs_for (fi_enum (fe_var 1) T.n_enumerate) (pg_tup rfl (pgs_cons (pg_name (i := 3) sc_check_run.nd rfl (by first | exact Or.inl rfl | exact Or.inr rfl) (by first | exact Or.inl rfl | exact Or.inr rfl)) (pgs_cons (pg_name (i := 4) sc_check_run.nd rfl (by first | exact Or.inl rfl | exact Or.inr rfl) (by first | exact Or.inl rfl | exact Or.inr rfl)) pgs_nil))) (gok_tup 2 (gsok_cons (gok_name 3) (gsok_cons (gok_name 4) gsok_nil))) (fss_one (fs_if (ft_cmp (op_neDD (hu64 hr)) ok_ne (fe_b1 FL.call_lenD ok_len T.n_len (by decide +kernel) (fe_var 4)) (fe_var 2) (nomark _)) (fss_one (FE.fs_raise1 (c := 2) D_BadRun (hr.mono (by decide)) tk (fe_var 3))) fss_nil)) (passes_own rfl))))))
abbrev s_parts_of_hour : Stmt := topS 19
abbrev N_parts_of_hour : List Str := ["row", "later", "parts", "start", "end"]
theorem sc_parts_of_hour : FnScope N_parts_of_hour ["row", "later"] (defScope s_parts_of_hour) := ⟨rfl, rfl, rfl, by decide +kernel, rfl, by decide +kernel, by decide +kernel⟩
def m_parts_of_hour : Sx := (sSeq (sSet 2 (mC (.int 1))) (sSeq (sFor (mZ3 (mVar 0) (mVar 1)) (gTp 2 (gsCons (gNm 3) (gsCons (gNm 4) gsNil))) (sIf (mTst (m2 neD (mVar 3) (mVar 4))) (sSet 2 (m2 mulD (mVar 2) (m1 absD (m2 subD (mVar 4) (mVar 3))))) sNx)) (sRet (mVar 2))))
def F_parts_of_hour : List Vl → Option Vl := bodyP 5 2 (m_parts_of_hour)
theorem ok_parts_of_hour (T : Tx K w mg C) (h : Hr K mg "parts_of_hour" s_parts_of_hour) : Dn Pg w K mg base CX0 1 "parts_of_hour" ["row", "later"] (spP (pm K ns C) F_parts_of_hour) :=
  dn_P (fx := fun _ => 0) h sc_parts_of_hour (by decide) (fun _ _ _ _ _ _ us hl => match us, hl with | [_, _], _ => rfl) (fun f cdv A outer s H E hr => 
    (fss_cons (fs_set (i := 2) rfl (by first | exact Or.inl rfl | exact Or.inr rfl) fe_int sc_parts_of_hour.nd (Or.inl rfl)) (fss_cons (fs_for (fi_zip3 (fe_var 0) (fe_var 1) T.n_zip) (pg_tup rfl (pgs_cons (pg_name (i := 3) sc_parts_of_hour.nd rfl (by first | exact Or.inl rfl | exact Or.inr rfl) (by first | exact Or.inl rfl | exact Or.inr rfl)) (pgs_cons (pg_name (i := 4) sc_parts_of_hour.nd rfl (by first | exact Or.inl rfl | exact Or.inr rfl) (by first | exact Or.inl rfl | exact Or.inr rfl)) pgs_nil))) (gok_tup 2 (gsok_cons (gok_name 3) (gsok_cons (gok_name 4) gsok_nil))) (fss_one (fs_if (ft_cmp (op_neDD (hu64 hr)) ok_ne (fe_var 3) (fe_var 4) (nomark _)) (fss_one (fs_set (i := 2) rfl (by first | exact Or.inl rfl | exact Or.inr rfl) (fe_op op_mulD ok_mul (fe_var 2) (fe_b1 call_abs ok_abs T.n_abs (by decide +kernel) (fe_op op_sub ok_sub (fe_var 4) (fe_var 3)))) sc_parts_of_hour.nd (Or.inl rfl))) fss_nil)) PassesOwn.never) (fss_one (fs_ret (fe_var 2))))))
abbrev s_mark_place : Stmt := topS 8
abbrev N_mark_place : List Str := ["number"]
theorem sc_mark_place : FnScope N_mark_place ["number"] (defScope s_mark_place) := ⟨rfl, rfl, rfl, by decide +kernel, rfl, by decide +kernel, by decide +kernel⟩
def m_mark_place : Sx := (sRet (m2 addD (m2 mulD (mC (.int 2)) (mVar 0)) (mC (.int 1))))
def F_mark_place : List Vl → Option Vl := bodyP 1 1 (m_mark_place)
theorem ok_mark_place (T : Tx K w mg C) (h : Hr K mg "mark_place" s_mark_place) : Dn Pg w K mg base CX0 1 "mark_place" ["number"] (spP (pm K ns C) F_mark_place) :=
  dn_P (fx := fun _ => 0) h sc_mark_place (by decide) (fun _ _ _ _ _ _ us hl => match us, hl with | [_], _ => rfl) (fun f cdv A outer s H E hr => 
    (fss_one (fs_ret (fe_op op_addD ok_add (fe_op op_mulD ok_mul fe_int (fe_var 0)) fe_int))))
abbrev s_place_of : Stmt := topS 22
abbrev N_place_of : List Str := ["marks", "number", "below", "mark"]
theorem sc_place_of : FnScope N_place_of ["marks", "number"] (defScope s_place_of) := ⟨rfl, rfl, rfl, by decide +kernel, rfl, by decide +kernel, by decide +kernel⟩
def m_place_of : Sx := (sSeq (sSet 2 (m1 lenD (mList (mLc [3] (mSeq (mVar 0)) (gNm 3) (mTst (m2 ltD (mVar 3) (mVar 1))) (mVar 3))))) (sRet (mIf (mTst (m2 inD (mVar 1) (mVar 0))) (mCall F_mark_place (mCons (mVar 2) mNil)) (m2 mulD (mC (.int 2)) (mVar 2)))))
def F_place_of : List Vl → Option Vl := bodyP 4 2 (m_place_of)
theorem ok_place_of (T : Tx K w mg C) (h : Hr K mg "place_of" s_place_of) (D_mark_place : Dn Pg w K mg base CX0 1 "mark_place" ["number"] (spP (pm K ns C) F_mark_place)) : Dn Pg w K mg base CX0 2 "place_of" ["marks", "number"] (spP (pm K ns C) F_place_of) :=
  dn_P (fx := fun _ => 0) h sc_place_of (by decide) (fun _ _ _ _ _ _ us hl => match us, hl with | [_, _], _ => rfl) (fun f cdv A outer s H E hr => 
    (fss_cons (fs_set (i := 2) rfl (by first | exact Or.inl rfl | exact Or.inr rfl) (fe_b1 FL.call_lenD ok_len T.n_len (by decide +kernel) (fe_list (fl_lc (fi_seq (fe_var 0)) (blkOk_by (own := [("mark", 3)]) (N := N_place_of) (sc := defScope s_place_of) (by decide +kernel)) rfl (gok_name 3) (fun _ _ _ _ _ => (pg_name (i := 3) sc_place_of.nd rfl (by first | exact Or.inl rfl | exact Or.inr rfl) (by first | exact Or.inl rfl | exact Or.inr rfl))) (fun _ _ _ _ _ => (fts_one (ft_cmp op_lt ok_lt (fe_var 3) (fe_var 1) (nomark _)))) (fun _ _ _ _ _ => (fe_var 3)) sc_place_of.nd))) sc_place_of.nd (Or.inl rfl)) (fss_one (fs_ret (fe_if (ft_cmp (op_inDD (hu65 hr)) ok_in (fe_var 1) (fe_var 0) (by with_unfolding_all rfl)) (fe_callD D_mark_place (hr.mono (by decide)) (fa_cons (fe_var 2) fa_nil)) (fe_op op_mulD ok_mul fe_int (fe_var 2)))))))
abbrev s_is_mark : Stmt := topS 7
abbrev N_is_mark : List Str := ["place"]
theorem sc_is_mark : FnScope N_is_mark ["place"] (defScope s_is_mark) := ⟨rfl, rfl, rfl, by decide +kernel, rfl, by decide +kernel, by decide +kernel⟩
def m_is_mark : Sx := (sRet (m2 eqD (m2 modD (mVar 0) (mC (.int 2))) (mC (.int 1))))
def F_is_mark : List Vl → Option Vl := bodyP 1 1 (m_is_mark)
theorem ok_is_mark (T : Tx K w mg C) (h : Hr K mg "is_mark" s_is_mark) : Dn Pg w K mg base CX0 1 "is_mark" ["place"] (spP (pm K ns C) F_is_mark) :=
  dn_P (fx := fun _ => 0) h sc_is_mark (by decide) (fun _ _ _ _ _ _ us hl => match us, hl with | [_], _ => rfl) (fun f cdv A outer s H E hr => 
    (fss_one (fs_ret (fe_cmp (op_eqDD (hu64 hr)) ok_eq (fe_op op_mod ok_mod (fe_var 0) fe_int) fe_int (nomark _)))))
abbrev s_state_behind : Stmt := topS 21
abbrev N_state_behind : List Str := ["marks", "number", "trend", "place"]
theorem sc_state_behind : FnScope N_state_behind ["marks", "number", "trend"] (defScope s_state_behind) := ⟨rfl, rfl, rfl, by decide +kernel, rfl, by decide +kernel, by decide +kernel⟩
def m_state_behind : Sx := (sSeq (sSet 3 (mCall F_place_of (mCons (mVar 0) (mCons (mVar 1) mNil)))) (sSeq (sIf (mTst (mCall F_is_mark (mCons (mVar 3) mNil))) (sRet (mTup (mCons (m2 addD (mVar 3) (mVar 2)) (mCons (mVar 2) mNil)))) sNx) (sRet (mTup (mCons (mVar 3) (mCons (mVar 2) mNil))))))
def F_state_behind : List Vl → Option Vl := bodyP 4 3 (m_state_behind)
theorem ok_state_behind (T : Tx K w mg C) (h : Hr K mg "state_behind" s_state_behind) (D_is_mark : Dn Pg w K mg base CX0 1 "is_mark" ["place"] (spP (pm K ns C) F_is_mark)) (D_place_of : Dn Pg w K mg base CX0 2 "place_of" ["marks", "number"] (spP (pm K ns C) F_place_of)) : Dn Pg w K mg base CX0 3 "state_behind" ["marks", "number", "trend"] (spP (pm K ns C) F_state_behind) :=
  dn_P (fx := fun _ => 0) h sc_state_behind (by decide) (fun _ _ _ _ _ _ us hl => match us, hl with | [_, _, _], _ => rfl) (fun f cdv A outer s H E hr => 
    (fss_cons (fs_set (i := 3) rfl (by first | exact Or.inl rfl | exact Or.inr rfl) (fe_callD D_place_of (hr.mono (by decide)) (fa_cons (fe_var 0) (fa_cons (fe_var 1) fa_nil))) sc_state_behind.nd (Or.inl rfl)) (fss_cons (fs_if (ft_val (fe_callD D_is_mark (hr.mono (by decide)) (fa_cons (fe_var 3) fa_nil))) (fss_one (fs_ret (fe_tup (fa_cons (fe_op op_addD ok_add (fe_var 3) (fe_var 2)) (fa_cons (fe_var 2) fa_nil))))) fss_nil) (fss_one (fs_ret (fe_tup (fa_cons (fe_var 3) (fa_cons (fe_var 2) fa_nil))))))))
abbrev s_sign : Stmt := topS 12
abbrev N_sign : List Str := ["number"]
theorem sc_sign : FnScope N_sign ["number"] (defScope s_sign) := ⟨rfl, rfl, rfl, by decide +kernel, rfl, by decide +kernel, by decide +kernel⟩
def m_sign : Sx := (sSeq (sIf (mTst (m2 gtD (mVar 0) (mC (.int 0)))) (sRet (mC (.int 1))) sNx) (sSeq (sIf (mTst (m2 ltD (mVar 0) (mC (.int 0)))) (sRet (m1 negD (mC (.int 1)))) sNx) (sRet (mC (.int 0)))))
def F_sign : List Vl → Option Vl := bodyP 1 1 (m_sign)
theorem ok_sign (T : Tx K w mg C) (h : Hr K mg "sign" s_sign) : Dn Pg w K mg base CX0 1 "sign" ["number"] (spP (pm K ns C) F_sign) :=
  dn_P (fx := fun _ => 0) h sc_sign (by decide) (fun _ _ _ _ _ _ us hl => match us, hl with | [_], _ => rfl) (fun f cdv A outer s H E hr => 
    (fss_cons (fs_if (ft_cmp op_gt ok_gt (fe_var 0) fe_int (nomark _)) (fss_one (fs_ret fe_int)) fss_nil) (fss_cons (fs_if (ft_cmp op_lt ok_lt (fe_var 0) fe_int (nomark _)) (fss_one (fs_ret (fe_un un_neg ok_neg fe_int))) fss_nil) (fss_one (fs_ret fe_int)))))
abbrev s_room_behind : Stmt := topS 20
abbrev N_room_behind : List Str := ["all_marks", "row", "later", "parts", "moment", "room", "marks", "start", "end", "number", "larger", "mark"]
theorem sc_room_behind : FnScope N_room_behind ["all_marks", "row", "later", "parts", "moment"] (defScope s_room_behind) := ⟨rfl, rfl, rfl, by decide +kernel, rfl, by decide +kernel, by decide +kernel⟩
def m_room_behind : Sx := (sSeq (sSet 5 (mTup mNil)) (sSeq (sFor (mZ33 (mVar 0) (mVar 1) (mVar 2)) (gTp 3 (gsCons (gNm 6) (gsCons (gNm 7) (gsCons (gNm 8) gsNil)))) (sSeq (sSet 9 (m2 addD (m2 mulD (mVar 7) (mVar 3)) (m2 mulD (m2 subD (mVar 8) (mVar 7)) (mVar 4)))) (sSeq (sSet 10 (mList (mLc [11] (mSeq (mVar 6)) (gNm 11) mYes (m2 mulD (mVar 11) (mVar 3))))) (sSet 5 (m2 addD (mVar 5) (mTup (mCons (mCall F_state_behind (mCons (mVar 10) (mCons (mVar 9) (mCons (mCall F_sign (mCons (m2 subD (mVar 8) (mVar 7)) mNil)) mNil)))) mNil))))))) (sRet (mVar 5))))
def F_room_behind : List Vl → Option Vl := bodyP 12 5 (m_room_behind)
theorem ok_room_behind (T : Tx K w mg C) (h : Hr K mg "room_behind" s_room_behind) (D_state_behind : Dn Pg w K mg base CX0 3 "state_behind" ["marks", "number", "trend"] (spP (pm K ns C) F_state_behind)) (D_sign : Dn Pg w K mg base CX0 1 "sign" ["number"] (spP (pm K ns C) F_sign)) : Dn Pg w K mg base CX0 4 "room_behind" ["all_marks", "row", "later", "parts", "moment"] (spP (pm K ns C) F_room_behind) :=
  dn_P (fx := fun _ => 0) h sc_room_behind (by decide) (fun _ _ _ _ _ _ us hl => match us, hl with | [_, _, _, _, _], _ => rfl) (fun f cdv A outer s H E hr => 
    (fss_cons (fs_set (i := 5) rfl (by first | exact Or.inl rfl | exact Or.inr rfl) (fe_tup fa_nil) sc_room_behind.nd (Or.inl rfl)) (fss_cons (fs_for (fi_zip33 (fe_var 0) (fe_var 1) (fe_var 2) T.n_zip) (pg_tup rfl (pgs_cons (pg_name (i := 6) sc_room_behind.nd rfl (by first | exact Or.inl rfl | exact Or.inr rfl) (by first | exact Or.inl rfl | exact Or.inr rfl)) (pgs_cons (pg_name (i := 7) sc_room_behind.nd rfl (by first | exact Or.inl rfl | exact Or.inr rfl) (by first | exact Or.inl rfl | exact Or.inr rfl)) (pgs_cons (pg_name (i := 8) sc_room_behind.nd rfl (by first | exact Or.inl rfl | exact Or.inr rfl) (by first | exact Or.inl rfl | exact Or.inr rfl)) pgs_nil)))) (gok_tup 3 (gsok_cons (gok_name 6) (gsok_cons (gok_name 7) (gsok_cons (gok_name 8) gsok_nil)))) (fss_cons (fs_set (i := 9) rfl (by first | exact Or.inl rfl | exact Or.inr rfl) (fe_op op_addD ok_add (fe_op op_mulD ok_mul (fe_var 7) (fe_var 3)) (fe_op op_mulD ok_mul (fe_op op_sub ok_sub (fe_var 8) (fe_var 7)) (fe_var 4))) sc_room_behind.nd (Or.inl rfl)) (fss_cons (PS.imp (st_lc (i := 10) rfl rfl (sw_true rfl rfl rfl (by decide +kernel)) (fi_seq (fe_var 6)) (blkOk_by (own := [("mark", 11)]) (N := N_room_behind) (sc := defScope s_room_behind) (by decide +kernel)) rfl (gok_name 11) (fun _ _ _ _ _ => (pg_name (i := 11) sc_room_behind.nd rfl (by first | exact Or.inl rfl | exact Or.inr rfl) (by first | exact Or.inl rfl | exact Or.inr rfl))) (fun _ _ _ _ _ => fts_nil) (fun _ _ _ _ _ => (fe_op op_mulD ok_mul (fe_var 11) (fe_var 3))) sc_room_behind.nd) (tS_set fun _ _ _ h => tE_list h)) (fss_one (fs_set (i := 5) rfl (by first | exact Or.inl rfl | exact Or.inr rfl) (fe_op op_addD ok_add (fe_var 5) (fe_tup (fa_cons (fe_callD D_state_behind (hr.mono (by decide)) (fa_cons (fe_var 10) (fa_cons (fe_var 9) (fa_cons (fe_callD D_sign (hr.mono (by decide)) (fa_cons (fe_op op_sub ok_sub (fe_var 8) (fe_var 7)) fa_nil)) fa_nil)))) fa_nil))) sc_room_behind.nd (Or.inl rfl))))) PassesOwn.never) (fss_one (fs_ret (fe_var 5))))))
abbrev s_rooms_of_hour : Stmt := topS 18
abbrev N_rooms_of_hour : List Str := ["all_marks", "row", "later", "parts", "moments", "marks", "start", "end", "crossed", "mark", "moment"]
theorem sc_rooms_of_hour : FnScope N_rooms_of_hour ["all_marks", "row", "later"] (defScope s_rooms_of_hour) := ⟨rfl, rfl, rfl, by decide +kernel, rfl, by decide +kernel, by decide +kernel⟩
def m_rooms_of_hour : Sx := (sSeq (sSet 3 (mCall F_parts_of_hour (mCons (mVar 1) (mCons (mVar 2) mNil)))) (sSeq (sOwn 4 (mLst (mCons (mC (.int 0)) mNil))) (sSeq (sFor (mZ33 (mVar 0) (mVar 1) (mVar 2)) (gTp 3 (gsCons (gNm 5) (gsCons (gNm 6) (gsCons (gNm 7) gsNil)))) (sSeq (sSet 8 (mList (mLc [9] (mSeq (mVar 5)) (gNm 9) (mTst (mChain ltD ltD (m2 min2D (mVar 6) (mVar 7)) (mVar 9) (m2 max2D (mVar 6) (mVar 7)))) (mVar 9)))) (sExt 4 (mList (mLc [9] (mSeq (mVar 8)) (gNm 9) mYes (m2 fdvnD (m2 mulD (m2 subD (mVar 9) (mVar 6)) (mVar 3)) (m2 subD (mVar 7) (mVar 6)))))))) (sFrz 4 (sRet (mList (mLc [10] (mSeq (m1 sortSetI (mVar 4))) (gNm 10) mYes (mCall F_room_behind (mCons (mVar 0) (mCons (mVar 1) (mCons (mVar 2) (mCons (mVar 3) (mCons (mVar 10) mNil)))))))))))))
def F_rooms_of_hour : List Vl → Option Vl := bodyP 11 3 (m_rooms_of_hour)
theorem ok_rooms_of_hour (T : Tx K w mg C) (h : Hr K mg "rooms_of_hour" s_rooms_of_hour) (D_room_behind : Dn Pg w K mg base CX0 4 "room_behind" ["all_marks", "row", "later", "parts", "moment"] (spP (pm K ns C) F_room_behind)) (D_parts_of_hour : Dn Pg w K mg base CX0 1 "parts_of_hour" ["row", "later"] (spP (pm K ns C) F_parts_of_hour)) : Dn Pg w K mg base CX0 5 "rooms_of_hour" ["all_marks", "row", "later"] (spP (pm K ns C) F_rooms_of_hour) :=
  dn_P (fx := fun _ => 0) h sc_rooms_of_hour (by decide) (fun _ _ _ _ _ _ us hl => match us, hl with | [_, _, _], _ => rfl) (fun f cdv A outer s H E hr => 
    (fss_cons (fs_set (i := 3) rfl (by first | exact Or.inl rfl | exact Or.inr rfl) (fe_callD D_parts_of_hour (hr.mono (by decide)) (fa_cons (fe_var 1) (fa_cons (fe_var 2) fa_nil))) sc_rooms_of_hour.nd (Or.inl rfl)) (fss_cons (fs_own (i := 4) rfl (by first | exact Or.inl rfl | exact Or.inr rfl) (fl_lst (fa_cons fe_int fa_nil)) sc_rooms_of_hour.nd (Or.inl rfl)) (fss_cons (fs_for (fi_zip33 (fe_var 0) (fe_var 1) (fe_var 2) T.n_zip) (pg_tup rfl (pgs_cons (pg_name (i := 5) sc_rooms_of_hour.nd rfl (by first | exact Or.inl rfl | exact Or.inr rfl) (by first | exact Or.inl rfl | exact Or.inr rfl)) (pgs_cons (pg_name (i := 6) sc_rooms_of_hour.nd rfl (by first | exact Or.inl rfl | exact Or.inr rfl) (by first | exact Or.inl rfl | exact Or.inr rfl)) (pgs_cons (pg_name (i := 7) sc_rooms_of_hour.nd rfl (by first | exact Or.inl rfl | exact Or.inr rfl) (by first | exact Or.inl rfl | exact Or.inr rfl)) pgs_nil)))) (gok_tup 3 (gsok_cons (gok_name 5) (gsok_cons (gok_name 6) (gsok_cons (gok_name 7) gsok_nil)))) (fss_cons (PS.imp (st_lc (i := 8) rfl rfl (sw_true rfl rfl rfl (by decide +kernel)) (fi_seq (fe_var 5)) (blkOk_by (own := [("mark", 9)]) (N := N_rooms_of_hour) (sc := defScope s_rooms_of_hour) (by decide +kernel)) rfl (gok_name 9) (fun _ _ _ _ _ => (pg_name (i := 9) sc_rooms_of_hour.nd rfl (by first | exact Or.inl rfl | exact Or.inr rfl) (by first | exact Or.inl rfl | exact Or.inr rfl))) (fun _ _ _ _ _ => (fts_one (ft_chain op_lt ok_lt op_lt ok_lt (fe_b2 (call_min2 rfl) ok_min2 T.n_min (by decide +kernel) (fe_var 6) (fe_var 7)) (fe_var 9) (fe_b2 (call_max2 rfl) ok_max2 T.n_max (by decide +kernel) (fe_var 6) (fe_var 7))))) (fun _ _ _ _ _ => (fe_var 9)) sc_rooms_of_hour.nd) (tS_set fun _ _ _ h => tE_list h)) (fss_one (fs_extend (pv 4) (fe_list (fl_lc (fi_seq (fe_var 8)) (blkOk_by (own := [("mark", 9)]) (N := N_rooms_of_hour) (sc := defScope s_rooms_of_hour) (by decide +kernel)) rfl (gok_name 9) (fun _ _ _ _ _ => (pg_name (i := 9) sc_rooms_of_hour.nd rfl (by first | exact Or.inl rfl | exact Or.inr rfl) (by first | exact Or.inl rfl | exact Or.inr rfl))) (fun _ _ _ _ _ => fts_nil) (fun _ _ _ _ _ => (fe_op op_fdivN ok_fdvn (fe_op op_mulD ok_mul (fe_op op_sub ok_sub (fe_var 9) (fe_var 6)) (fe_var 3)) (fe_op op_sub ok_sub (fe_var 7) (fe_var 6)))) sc_rooms_of_hour.nd))))) PassesOwn.never) (fss_one (fs_frz 4 (fs_ret (fe_list (fl_lc (fi_seq (fe_sortSetI (fe_var 4) T.n_sorted T.n_set)) (blkOk_by (own := [("moment", 10)]) (N := N_rooms_of_hour) (sc := defScope s_rooms_of_hour) (by decide +kernel)) rfl (gok_name 10) (fun _ _ _ _ _ => (pg_name (i := 10) sc_rooms_of_hour.nd rfl (by first | exact Or.inl rfl | exact Or.inr rfl) (by first | exact Or.inl rfl | exact Or.inr rfl))) (fun _ _ _ _ _ => fts_nil) (fun _ _ _ _ _ => (fe_callD D_room_behind (hr.mono (by decide)) (fa_cons (fe_var 0) (fa_cons (fe_var 1) (fa_cons (fe_var 2) (fa_cons (fe_var 3) (fa_cons (fe_var 10) fa_nil))))))) sc_rooms_of_hour.nd)))))))))
abbrev s_passed : Stmt := topS 15
abbrev N_passed : List Str := ["house", "rows", "all_marks", "found", "row", "later", "room", "_", "marks"]
theorem sc_passed : FnScope N_passed ["house", "rows"] (defScope s_passed) := ⟨rfl, rfl, rfl, by decide +kernel, rfl, by decide +kernel, by decide +kernel⟩
def m_passed : Sx := (sSeq (sDropX (mCallX F_check_run (mCons (mVar 0) (mCons (mVar 1) mNil)))) (sSeq (sSet 2 (mList (mLc [7, 8] (mSeq (mList (mHse F_House_things (mVar 0)))) (gTp 2 (gsCons (gNm 7) (gsCons (gNm 8) gsNil))) mYes (mVar 8)))) (sSeq (sOwn 3 (mLst mNil)) (sSeq (sFor (mZ3 (mVar 1) (mSl (mVar 1) (mSome (mC (.int 1))) mNone)) (gTp 2 (gsCons (gNm 4) (gsCons (gNm 5) gsNil))) (sFor (mSeq (mCall F_rooms_of_hour (mCons (mVar 2) (mCons (mVar 4) (mCons (mVar 5) mNil))))) (gNm 6) (sIf (mBor 3 (mTst (m2 neD (mSl (mVar 3) (mSome (m1 negD (mC (.int 1)))) mNone) (mList (mLst (mCons (mVar 6) mNil)))))) (sApp 3 (mVar 6)) sNx))) (sRetO 3)))))
def F_passed : List Vl → Option Res := bodyX 9 2 (m_passed)
theorem ok_passed (T : Tx K w mg C) (h : Hr K mg "passed" s_passed) (D_rooms_of_hour : Dn Pg w K mg base CX0 5 "rooms_of_hour" ["all_marks", "row", "later"] (spP (pm K ns C) F_rooms_of_hour)) (D_House_things : Dm Pg w K mg base 1 C "things" (spL (pm K ns C) F_House_things)) (D_check_run : Dn Pg w K mg base (L2.CX Pg w) 3 "check_run" ["house", "rows"] (spX (pm K ns C) fx F_check_run)) : Dn Pg w K mg base (L2.CX Pg w) 6 "passed" ["house", "rows"] (spX (pm K ns C) fx F_passed) :=
  dn_X h sc_passed (by decide) (fun _ _ _ _ _ _ us hl => match us, hl with | [_, _], _ => rfl) (fun f cdv A outer s H E hr => have tk := takes_of rfl rfl rfl rfl; 
    (fss_cons (fs_exprX (fx_callD D_check_run (hr.mono (by decide)) tk (fa_cons (fe_var 0) (fa_cons (fe_var 1) fa_nil)))) (fss_cons (PS.imp (st_lc (i := 2) rfl rfl (sw_true rfl rfl rfl (by decide +kernel)) (fi_seq (fe_list (fl_hse T.cH D_House_things (hr.mono (by decide)) (fe_var 0)))) (blkOk_by (own := [("_", 7), ("marks", 8)]) (N := N_passed) (sc := defScope s_passed) (by decide +kernel)) rfl (gok_tup 2 (gsok_cons (gok_name 7) (gsok_cons (gok_name 8) gsok_nil))) (fun _ _ _ _ _ => (pg_tup rfl (pgs_cons (pg_name (i := 7) sc_passed.nd rfl (by first | exact Or.inl rfl | exact Or.inr rfl) (by first | exact Or.inl rfl | exact Or.inr rfl)) (pgs_cons (pg_name (i := 8) sc_passed.nd rfl (by first | exact Or.inl rfl | exact Or.inr rfl) (by first | exact Or.inl rfl | exact Or.inr rfl)) pgs_nil)))) (fun _ _ _ _ _ => fts_nil) (fun _ _ _ _ _ => (fe_var 8)) sc_passed.nd) (tS_set fun _ _ _ h => tE_list h)) (fss_cons (fs_own (i := 3) rfl (by first | exact Or.inl rfl | exact Or.inr rfl) (fl_lst fa_nil) sc_passed.nd (Or.inl rfl)) (fss_cons (fs_for (fi_zip3 (fe_var 1) (fe_sl (fe_var 1) (fo_some fe_int) fo_none) T.n_zip) (pg_tup rfl (pgs_cons (pg_name (i := 4) sc_passed.nd rfl (by first | exact Or.inl rfl | exact Or.inr rfl) (by first | exact Or.inl rfl | exact Or.inr rfl)) (pgs_cons (pg_name (i := 5) sc_passed.nd rfl (by first | exact Or.inl rfl | exact Or.inr rfl) (by first | exact Or.inl rfl | exact Or.inr rfl)) pgs_nil))) (gok_tup 2 (gsok_cons (gok_name 4) (gsok_cons (gok_name 5) gsok_nil))) (fss_one (fs_for (fi_seq (fe_callD D_rooms_of_hour (hr.mono (by decide)) (fa_cons (fe_var 2) (fa_cons (fe_var 4) (fa_cons (fe_var 5) fa_nil))))) (pg_name (i := 6) sc_passed.nd rfl (by first | exact Or.inl rfl | exact Or.inr rfl) (by first | exact Or.inl rfl | exact Or.inr rfl)) (gok_name 6) (fss_one (fs_if (ft_bor 3 (ft_cmp (op_neDD (hu64 hr)) ok_ne (fe_sl (fe_var 3) (fo_some (fe_un un_neg ok_neg fe_int)) fo_none) (fe_list (fl_lst (fa_cons (fe_var 6) fa_nil))) (nomark _))) (fss_one (fs_append (pv 3) (fe_var 6))) fss_nil)) (passes_own rfl))) (passes_own rfl)) (fss_one (fs_retO (pv 3))))))))
abbrev s_passed_L : Stmt := topS 15
abbrev N_passed_L : List Str := ["house", "rows", "all_marks", "found", "row", "later", "room", "_", "marks"]
theorem sc_passed_L : FnScope N_passed_L ["house", "rows"] (defScope s_passed_L) := ⟨rfl, rfl, rfl, by decide +kernel, rfl, by decide +kernel, by decide +kernel⟩
def m_passed_L : Sx := (sSeq (sDropX (mCallX F_check_run (mCons (mVar 0) (mCons (mVar 1) mNil)))) (sSeq (sSet 2 (mList (mLc [7, 8] (mSeq (mList (mHse F_House_things (mVar 0)))) (gTp 2 (gsCons (gNm 7) (gsCons (gNm 8) gsNil))) mYes (mVar 8)))) (sSeq (sOwn 3 (mLst mNil)) (sSeq (sFor (mZ3 (mVar 1) (mSl (mVar 1) (mSome (mC (.int 1))) mNone)) (gTp 2 (gsCons (gNm 4) (gsCons (gNm 5) gsNil))) (sFor (mSeq (mCall F_rooms_of_hour (mCons (mVar 2) (mCons (mVar 4) (mCons (mVar 5) mNil))))) (gNm 6) (sIf (mBor 3 (mTst (m2 neD (mSl (mVar 3) (mSome (m1 negD (mC (.int 1)))) mNone) (mList (mLst (mCons (mVar 6) mNil)))))) (sApp 3 (mVar 6)) sNx))) (sRetO 3)))))
def F_passed_L : List Vl → Option (List PyData) := bodyL 9 2 (m_passed_L)
theorem ok_passed_L (T : Tx K w mg C) (h : Hr K mg "passed" s_passed_L) (D_rooms_of_hour : Dn Pg w K mg base CX0 5 "rooms_of_hour" ["all_marks", "row", "later"] (spP (pm K ns C) F_rooms_of_hour)) (D_House_things : Dm Pg w K mg base 1 C "things" (spL (pm K ns C) F_House_things)) (D_check_run : Dn Pg w K mg base (L2.CX Pg w) 3 "check_run" ["house", "rows"] (spX (pm K ns C) fx F_check_run)) : Dn Pg w K mg base CX0 6 "passed" ["house", "rows"] (spL (pm K ns C) F_passed_L) :=
  dn_L (fx := fx) h sc_passed_L (by decide) (fun _ _ _ _ _ _ us hl => match us, hl with | [_, _], _ => rfl) (fun f cdv A outer s H E hr => 
    (fss_cons (fs_exprX (fx_callD D_check_run (hr.mono (by decide)) (takesF (X := _)) (fa_cons (fe_var 0) (fa_cons (fe_var 1) fa_nil)))) (fss_cons (PS.imp (st_lc (i := 2) rfl rfl (sw_true rfl rfl rfl (by decide +kernel)) (fi_seq (fe_list (fl_hse T.cH D_House_things (hr.mono (by decide)) (fe_var 0)))) (blkOk_by (own := [("_", 7), ("marks", 8)]) (N := N_passed_L) (sc := defScope s_passed_L) (by decide +kernel)) rfl (gok_tup 2 (gsok_cons (gok_name 7) (gsok_cons (gok_name 8) gsok_nil))) (fun _ _ _ _ _ => (pg_tup rfl (pgs_cons (pg_name (i := 7) sc_passed_L.nd rfl (by first | exact Or.inl rfl | exact Or.inr rfl) (by first | exact Or.inl rfl | exact Or.inr rfl)) (pgs_cons (pg_name (i := 8) sc_passed_L.nd rfl (by first | exact Or.inl rfl | exact Or.inr rfl) (by first | exact Or.inl rfl | exact Or.inr rfl)) pgs_nil)))) (fun _ _ _ _ _ => fts_nil) (fun _ _ _ _ _ => (fe_var 8)) sc_passed_L.nd) (tS_set fun _ _ _ h => tE_list h)) (fss_cons (fs_own (i := 3) rfl (by first | exact Or.inl rfl | exact Or.inr rfl) (fl_lst fa_nil) sc_passed_L.nd (Or.inl rfl)) (fss_cons (fs_for (fi_zip3 (fe_var 1) (fe_sl (fe_var 1) (fo_some fe_int) fo_none) T.n_zip) (pg_tup rfl (pgs_cons (pg_name (i := 4) sc_passed_L.nd rfl (by first | exact Or.inl rfl | exact Or.inr rfl) (by first | exact Or.inl rfl | exact Or.inr rfl)) (pgs_cons (pg_name (i := 5) sc_passed_L.nd rfl (by first | exact Or.inl rfl | exact Or.inr rfl) (by first | exact Or.inl rfl | exact Or.inr rfl)) pgs_nil))) (gok_tup 2 (gsok_cons (gok_name 4) (gsok_cons (gok_name 5) gsok_nil))) (fss_one (fs_for (fi_seq (fe_callD D_rooms_of_hour (hr.mono (by decide)) (fa_cons (fe_var 2) (fa_cons (fe_var 4) (fa_cons (fe_var 5) fa_nil))))) (pg_name (i := 6) sc_passed_L.nd rfl (by first | exact Or.inl rfl | exact Or.inr rfl) (by first | exact Or.inl rfl | exact Or.inr rfl)) (gok_name 6) (fss_one (fs_if (ft_bor 3 (ft_cmp (op_neDD (hu64 hr)) ok_ne (fe_sl (fe_var 3) (fo_some (fe_un un_neg ok_neg fe_int)) fo_none) (fe_list (fl_lst (fa_cons (fe_var 6) fa_nil))) (nomark _))) (fss_one (fs_append (pv 3) (fe_var 6))) fss_nil)) PassesOwn.never)) PassesOwn.never) (fss_one (fs_retO (pv 3))))))))
abbrev s_may_be_sum : Stmt := topS 11
abbrev N_may_be_sum : List Str := ["trend", "second", "third"]
theorem sc_may_be_sum : FnScope N_may_be_sum ["trend", "second", "third"] (defScope s_may_be_sum) := ⟨rfl, rfl, rfl, by decide +kernel, rfl, by decide +kernel, by decide +kernel⟩
def m_may_be_sum : Sx := (sSeq (sIf (mTst (m2 eqD (m2 mulD (mVar 1) (mVar 2)) (m1 negD (mC (.int 1))))) (sRet (mC (.bool true))) sNx) (sRet (m2 eqD (mVar 0) (mCall F_sign (mCons (m2 addD (mVar 1) (mVar 2)) mNil)))))
def F_may_be_sum : List Vl → Option Vl := bodyP 3 3 (m_may_be_sum)
theorem ok_may_be_sum (T : Tx K w mg C) (h : Hr K mg "may_be_sum" s_may_be_sum) (D_sign : Dn Pg w K mg base CX0 1 "sign" ["number"] (spP (pm K ns C) F_sign)) : Dn Pg w K mg base CX0 2 "may_be_sum" ["trend", "second", "third"] (spP (pm K ns C) F_may_be_sum) :=
  dn_P (fx := fun _ => 0) h sc_may_be_sum (by decide) (fun _ _ _ _ _ _ us hl => match us, hl with | [_, _, _], _ => rfl) (fun f cdv A outer s H E hr => 
    (fss_cons (fs_if (ft_cmp (op_eqDD (hu64 hr)) ok_eq (fe_op op_mulD ok_mul (fe_var 1) (fe_var 2)) (fe_un un_neg ok_neg fe_int) (nomark _)) (fss_one (fs_ret fe_bl)) fss_nil) (fss_one (fs_ret (fe_cmp (op_eqDD (hu64 hr)) ok_eq (fe_var 0) (fe_callD D_sign (hr.mono (by decide)) (fa_cons (fe_op op_addD ok_add (fe_var 1) (fe_var 2)) fa_nil)) (nomark _))))))
abbrev s_keeps : Stmt := topS 10
abbrev N_keeps : List Str := ["room", "tie", "word", "place", "trend", "second_place", "second", "third"]
theorem sc_keeps : FnScope N_keeps ["room", "tie"] (defScope s_keeps) := ⟨rfl, rfl, rfl, by decide +kernel, rfl, by decide +kernel, by decide +kernel⟩
def m_keeps : Sx := (sSeq (sSet 2 (m2 ixD (mVar 1) (mC (.int 0)))) (sSeq (sTgt (gTp 2 (gsCons (gNm 3) (gsCons (gNm 4) gsNil))) (m2 ixD (mVar 0) (m2 ixD (mVar 1) (mC (.int 1))))) (sSeq (sIf (mTst (m2 eqD (mVar 2) (mC (.str (PySem.Str.ofString "under"))))) (sRet (m2 leD (mVar 3) (mCall F_mark_place (mCons (m2 ixD (mVar 1) (mC (.int 2))) mNil)))) sNx) (sSeq (sIf (mTst (m2 eqD (mVar 2) (mC (.str (PySem.Str.ofString "over"))))) (sRet (m2 geD (mVar 3) (mCall F_mark_place (mCons (m2 ixD (mVar 1) (mC (.int 2))) mNil)))) sNx) (sSeq (sTgt (gTp 2 (gsCons (gNm 5) (gsCons (gNm 6) gsNil))) (m2 ixD (mVar 0) (m2 ixD (mVar 1) (mC (.int 2))))) (sSeq (sIf (mTst (m2 eqD (mVar 2) (mC (.str (PySem.Str.ofString "with"))))) (sRet (m2 eqD (mVar 4) (mVar 6))) sNx) (sSeq (sIf (mTst (m2 eqD (mVar 2) (mC (.str (PySem.Str.ofString "against"))))) (sRet (m2 eqD (mVar 4) (m1 negD (mVar 6)))) sNx) (sSeq (sIf (mTst (m2 eqD (mVar 2) (mC (.str (PySem.Str.ofString "rate"))))) (sRet (m2 eqD (mVar 4) (mCall F_sign (mCons (m2 subD (mVar 5) (mCall F_mark_place (mCons (m2 ixD (mVar 1) (mC (.int 3))) mNil))) mNil)))) sNx) (sSeq (sSet 7 (m2 ixD (m2 ixD (mVar 0) (m2 ixD (mVar 1) (mC (.int 3)))) (mC (.int 1)))) (sSeq (sIf (mTst (m2 eqD (mVar 2) (mC (.str (PySem.Str.ofString "product"))))) (sRet (m2 eqD (mVar 4) (m2 mulD (mVar 6) (mVar 7)))) sNx) (sRet (mCall F_may_be_sum (mCons (mVar 4) (mCons (mVar 6) (mCons (mVar 7) mNil)))))))))))))))
def F_keeps : List Vl → Option Vl := bodyP 8 2 (m_keeps)
theorem ok_keeps (T : Tx K w mg C) (h : Hr K mg "keeps" s_keeps) (D_may_be_sum : Dn Pg w K mg base CX0 2 "may_be_sum" ["trend", "second", "third"] (spP (pm K ns C) F_may_be_sum)) (D_sign : Dn Pg w K mg base CX0 1 "sign" ["number"] (spP (pm K ns C) F_sign)) (D_mark_place : Dn Pg w K mg base CX0 1 "mark_place" ["number"] (spP (pm K ns C) F_mark_place)) : Dn Pg w K mg base CX0 3 "keeps" ["room", "tie"] (spP (pm K ns C) F_keeps) :=
  dn_P (fx := fun _ => 0) h sc_keeps (by decide) (fun _ _ _ _ _ _ us hl => match us, hl with | [_, _], _ => rfl) (fun f cdv A outer s H E hr => 
    (fss_cons (fs_set (i := 2) rfl (by first | exact Or.inl rfl | exact Or.inr rfl) (fe_ix (fe_var 1) fe_int) sc_keeps.nd (Or.inl rfl)) (fss_cons (fs_tgt (fe_ix (fe_var 0) (fe_ix (fe_var 1) fe_int)) (pg_tup rfl (pgs_cons (pg_name (i := 3) sc_keeps.nd rfl (by first | exact Or.inl rfl | exact Or.inr rfl) (by first | exact Or.inl rfl | exact Or.inr rfl)) (pgs_cons (pg_name (i := 4) sc_keeps.nd rfl (by first | exact Or.inl rfl | exact Or.inr rfl) (by first | exact Or.inl rfl | exact Or.inr rfl)) pgs_nil))) (gok_tup 2 (gsok_cons (gok_name 3) (gsok_cons (gok_name 4) gsok_nil)))) (fss_cons (fs_if (ft_cmp (op_eqDD (hu64 hr)) ok_eq (fe_var 2) fe_str (nomark _)) (fss_one (fs_ret (fe_cmp op_le ok_le (fe_var 3) (fe_callD D_mark_place (hr.mono (by decide)) (fa_cons (fe_ix (fe_var 1) fe_int) fa_nil)) (nomark _)))) fss_nil) (fss_cons (fs_if (ft_cmp (op_eqDD (hu64 hr)) ok_eq (fe_var 2) fe_str (nomark _)) (fss_one (fs_ret (fe_cmp op_ge ok_ge (fe_var 3) (fe_callD D_mark_place (hr.mono (by decide)) (fa_cons (fe_ix (fe_var 1) fe_int) fa_nil)) (nomark _)))) fss_nil) (fss_cons (fs_tgt (fe_ix (fe_var 0) (fe_ix (fe_var 1) fe_int)) (pg_tup rfl (pgs_cons (pg_name (i := 5) sc_keeps.nd rfl (by first | exact Or.inl rfl | exact Or.inr rfl) (by first | exact Or.inl rfl | exact Or.inr rfl)) (pgs_cons (pg_name (i := 6) sc_keeps.nd rfl (by first | exact Or.inl rfl | exact Or.inr rfl) (by first | exact Or.inl rfl | exact Or.inr rfl)) pgs_nil))) (gok_tup 2 (gsok_cons (gok_name 5) (gsok_cons (gok_name 6) gsok_nil)))) (fss_cons (fs_if (ft_cmp (op_eqDD (hu64 hr)) ok_eq (fe_var 2) fe_str (nomark _)) (fss_one (fs_ret (fe_cmp (op_eqDD (hu64 hr)) ok_eq (fe_var 4) (fe_var 6) (nomark _)))) fss_nil) (fss_cons (fs_if (ft_cmp (op_eqDD (hu64 hr)) ok_eq (fe_var 2) fe_str (nomark _)) (fss_one (fs_ret (fe_cmp (op_eqDD (hu64 hr)) ok_eq (fe_var 4) (fe_un un_neg ok_neg (fe_var 6)) (nomark _)))) fss_nil) (fss_cons (fs_if (ft_cmp (op_eqDD (hu64 hr)) ok_eq (fe_var 2) fe_str (nomark _)) (fss_one (fs_ret (fe_cmp (op_eqDD (hu64 hr)) ok_eq (fe_var 4) (fe_callD D_sign (hr.mono (by decide)) (fa_cons (fe_op op_sub ok_sub (fe_var 5) (fe_callD D_mark_place (hr.mono (by decide)) (fa_cons (fe_ix (fe_var 1) fe_int) fa_nil))) fa_nil)) (nomark _)))) fss_nil) (fss_cons (fs_set (i := 7) rfl (by first | exact Or.inl rfl | exact Or.inr rfl) (fe_ix (fe_ix (fe_var 0) (fe_ix (fe_var 1) fe_int)) fe_int) sc_keeps.nd (Or.inl rfl)) (fss_cons (fs_if (ft_cmp (op_eqDD (hu64 hr)) ok_eq (fe_var 2) fe_str (nomark _)) (fss_one (fs_ret (fe_cmp (op_eqDD (hu64 hr)) ok_eq (fe_var 4) (fe_op op_mulD ok_mul (fe_var 6) (fe_var 7)) (nomark _)))) fss_nil) (fss_one (fs_ret (fe_callD D_may_be_sum (hr.mono (by decide)) (fa_cons (fe_var 4) (fa_cons (fe_var 6) (fa_cons (fe_var 7) fa_nil)))))))))))))))))
abbrev s_first_broken : Stmt := topS 9
abbrev N_first_broken : List Str := ["ties", "room", "number", "tie"]
theorem sc_first_broken : FnScope N_first_broken ["ties", "room"] (defScope s_first_broken) := ⟨rfl, rfl, rfl, by decide +kernel, rfl, by decide +kernel, by decide +kernel⟩
def m_first_broken : Sx := (sSeq (sFor (mEn (mVar 0)) (gTp 2 (gsCons (gNm 2) (gsCons (gNm 3) gsNil))) (sIf (mNot (mTst (mCall F_keeps (mCons (mVar 1) (mCons (mVar 3) mNil))))) (sRet (mVar 2)) sNx)) (sRet (mC .none)))
def F_first_broken : List Vl → Option Vl := bodyP 4 2 (m_first_broken)
theorem ok_first_broken (T : Tx K w mg C) (h : Hr K mg "first_broken" s_first_broken) (D_keeps : Dn Pg w K mg base CX0 3 "keeps" ["room", "tie"] (spP (pm K ns C) F_keeps)) : Dn Pg w K mg base CX0 4 "first_broken" ["ties", "room"] (spP (pm K ns C) F_first_broken) :=
  dn_P (fx := fun _ => 0) h sc_first_broken (by decide) (fun _ _ _ _ _ _ us hl => match us, hl with | [_, _], _ => rfl) (fun f cdv A outer s H E hr => 
    (fss_cons (fs_for (fi_enum (fe_var 0) T.n_enumerate) (pg_tup rfl (pgs_cons (pg_name (i := 2) sc_first_broken.nd rfl (by first | exact Or.inl rfl | exact Or.inr rfl) (by first | exact Or.inl rfl | exact Or.inr rfl)) (pgs_cons (pg_name (i := 3) sc_first_broken.nd rfl (by first | exact Or.inl rfl | exact Or.inr rfl) (by first | exact Or.inl rfl | exact Or.inr rfl)) pgs_nil))) (gok_tup 2 (gsok_cons (gok_name 2) (gsok_cons (gok_name 3) gsok_nil))) (fss_one (fs_if (ft_not (ft_val (fe_callD D_keeps (hr.mono (by decide)) (fa_cons (fe_var 1) (fa_cons (fe_var 3) fa_nil))))) (fss_one (fs_ret (fe_var 2))) fss_nil)) PassesOwn.never) (fss_one (fs_ret fe_non))))
abbrev s_kept : Stmt := topS 16
abbrev N_kept : List Str := ["house", "rows", "ties", "number", "room", "tie"]
theorem sc_kept : FnScope N_kept ["house", "rows"] (defScope s_kept) := ⟨rfl, rfl, rfl, by decide +kernel, rfl, by decide +kernel, by decide +kernel⟩
def m_kept : Sx := (sSeq (sSet 2 (mList (mHse F_House_ties (mVar 0)))) (sSeq (sForE (mCallX F_passed (mCons (mVar 0) (mCons (mVar 1) mNil))) (gTp 2 (gsCons (gNm 3) (gsCons (gNm 4) gsNil))) (sSeq (sSet 5 (mCall F_first_broken (mCons (mVar 2) (mCons (mVar 4) mNil)))) (sIf (mTst (m2 notND (mVar 5) (mC .none))) (sRet (mTup (mCons (mVar 3) (mCons (mVar 5) mNil)))) sNx))) (sRet (mC .none))))
def F_kept : List Vl → Option Res := bodyX 6 2 (m_kept)
theorem ok_kept (T : Tx K w mg C) (h : Hr K mg "kept" s_kept) (D_passed : Dn Pg w K mg base (L2.CX Pg w) 6 "passed" ["house", "rows"] (spX (pm K ns C) fx F_passed)) (D_first_broken : Dn Pg w K mg base CX0 4 "first_broken" ["ties", "room"] (spP (pm K ns C) F_first_broken)) (D_House_ties : Dm Pg w K mg base 1 C "ties" (spL (pm K ns C) F_House_ties)) : Dn Pg w K mg base (L2.CX Pg w) 7 "kept" ["house", "rows"] (spX (pm K ns C) fx F_kept) :=
  dn_X h sc_kept (by decide) (fun _ _ _ _ _ _ us hl => match us, hl with | [_, _], _ => rfl) (fun f cdv A outer s H E hr => have tk := takes_of rfl rfl rfl rfl; 
    (fss_cons (fs_set (i := 2) rfl (by first | exact Or.inl rfl | exact Or.inr rfl) (fe_list (fl_hse T.cH D_House_ties (hr.mono (by decide)) (fe_var 0))) sc_kept.nd (Or.inl rfl)) (fss_cons (fs_forE (fx_callD D_passed (hr.mono (by decide)) tk (fa_cons (fe_var 0) (fa_cons (fe_var 1) fa_nil))) T.n_enumerate (pg_tup rfl (pgs_cons (pg_name (i := 3) sc_kept.nd rfl (by first | exact Or.inl rfl | exact Or.inr rfl) (by first | exact Or.inl rfl | exact Or.inr rfl)) (pgs_cons (pg_name (i := 4) sc_kept.nd rfl (by first | exact Or.inl rfl | exact Or.inr rfl) (by first | exact Or.inl rfl | exact Or.inr rfl)) pgs_nil))) (gok_tup 2 (gsok_cons (gok_name 3) (gsok_cons (gok_name 4) gsok_nil))) (fss_cons (fs_set (i := 5) rfl (by first | exact Or.inl rfl | exact Or.inr rfl) (fe_callD D_first_broken (hr.mono (by decide)) (fa_cons (fe_var 2) (fa_cons (fe_var 4) fa_nil))) sc_kept.nd (Or.inl rfl)) (fss_one (fs_if (ft_cmp op_notN ok_notN (fe_var 5) fe_non (nomark _)) (fss_one (fs_ret (fe_tup (fa_cons (fe_var 3) (fa_cons (fe_var 5) fa_nil))))) fss_nil))) (passes_own rfl)) (fss_one (fs_ret fe_non)))))
abbrev s__law_none : Stmt := topS 57
abbrev N__law_none : List Str := ["_law_row", "_law_rows_here", "_law_few", "_law_found", "_law_bad", "_law_turn", "_law_k"]
theorem sc__law_none : FnScope N__law_none ["_law_row", "_law_rows_here"] (defScope s__law_none) := ⟨rfl, rfl, rfl, by decide +kernel, rfl, by decide +kernel, by decide +kernel⟩
def m__law_none (ns : List Int) : Sx := (sSeq (sIf (mTst (m2 eqD (mCallR 0 (F__law_taken ns) (mCons (mC (.int 4)) mNil)) (mC (.int 3)))) (sSeq (sSet 2 (mSl (mVar 1) mNone (mSome (mCallR 0 (F__law_taken ns) (mCons (mC (.int 2)) mNil))))) (sRet (mTup (mCons (mVar 2) (mCons (m1 lenD (mVar 2)) mNil))))) sNx) (sSeq (sOwn 3 (bnd (mVar 1) fun x => opt (lstD x))) (sSeq (sOwn 4 (mLst mNil)) (sSeq (sFor (mRg1 (m2 addD (mC (.int 1)) (mCallR 0 (F__law_taken ns) (mCons (mC (.int 2)) mNil)))) (gNm 5) (sSeq (sSet 6 (mCallR 0 (F__law_taken ns) (mCons (mLenO 3) mNil))) (sIf (mBor 4 (mTst (m2 ninD (mVar 6) (mVar 4)))) (sSeq (sSetO 3 (mVar 6) (m2 ixD (mList (mLst (mCons (mSl (mIxV 3 (mVar 6)) (mSome (mC (.int 1))) mNone) (mCons (m2 addD (mIxV 3 (mVar 6)) (mTup (mCons (mC (.int 7)) mNil))) mNil)))) (mCallR 0 (F__law_taken ns) (mCons (mC (.int 2)) mNil)))) (sApp 4 (mVar 6))) sNx))) (sFrz 4 (sFrz 3 (sRet (mTup (mCons (mVar 3) (mCons (m1 minD (mVar 4)) mNil))))))))))
def F__law_none (ns : List Int) : List Vl → Ro → Option (Vl × Ro) := bodyR 7 1 (m__law_none ns)
theorem ok__law_none (T : Tx K w mg C) (h : Hr K mg "_law_none" s__law_none) (D__law_taken : Dn Pg w K mg base CX0 1 "_law_taken" ["_law_row", "_law_many"] (spR (pm K ns C) (F__law_taken ns))) : Dn Pg w K mg base CX0 2 "_law_none" ["_law_row", "_law_rows_here"] (spR (pm K ns C) (F__law_none ns)) :=
  dn_R (fx := fun _ => 0) h sc__law_none (by decide) (by decide) (fun _ _ _ _ _ _ us hl => match us, hl with | [_, _], _ => rfl) (fun f cdv A outer s H E hr => 
    (fss_cons (fs_if (ft_cmp (op_eqDD (hu64 hr)) ok_eq (fe_callRD D__law_taken (hr.mono (by decide)) (pv 0) (fa_cons fe_int fa_nil)) fe_int (nomark _)) (fss_cons (fs_set (i := 2) rfl (by first | exact Or.inl rfl | exact Or.inr rfl) (fe_sl (fe_var 1) fo_none (fo_some (fe_callRD D__law_taken (hr.mono (by decide)) (pv 0) (fa_cons fe_int fa_nil)))) sc__law_none.nd (Or.inl rfl)) (fss_one (fs_ret (fe_tup (fa_cons (fe_var 2) (fa_cons (fe_b1 FL.call_lenD ok_len T.n_len (by decide +kernel) (fe_var 2)) fa_nil)))))) fss_nil) (fss_cons (fs_own (i := 3) rfl (by first | exact Or.inl rfl | exact Or.inr rfl) (fl_listOf (fe_var 1) T.n_list) sc__law_none.nd (Or.inl rfl)) (fss_cons (fs_own (i := 4) rfl (by first | exact Or.inl rfl | exact Or.inr rfl) (fl_lst fa_nil) sc__law_none.nd (Or.inl rfl)) (fss_cons (fs_for (fi_rg1 (fe_op op_addD ok_add fe_int (fe_callRD D__law_taken (hr.mono (by decide)) (pv 0) (fa_cons fe_int fa_nil))) T.n_range) (pg_name (i := 5) sc__law_none.nd rfl (by first | exact Or.inl rfl | exact Or.inr rfl) (by first | exact Or.inl rfl | exact Or.inr rfl)) (gok_name 5) (fss_cons (fs_set (i := 6) rfl (by first | exact Or.inl rfl | exact Or.inr rfl) (fe_callRD D__law_taken (hr.mono (by decide)) (pv 0) (fa_cons (fe_lenO (pv 3) T.n_len) fa_nil)) sc__law_none.nd (Or.inl rfl)) (fss_one (fs_if (ft_bor 4 (ft_cmp (op_ninDD (hu65 hr)) ok_nin (fe_var 6) (fe_var 4) (by with_unfolding_all rfl))) (fss_cons (fs_setO (pv 3) (fe_var 6) (fe_ix (fe_list (fl_lst (fa_cons (fe_sl (fe_ixV (pv 3) (fe_var 6)) (fo_some fe_int) fo_none) (fa_cons (fe_op op_addD ok_add (fe_ixV (pv 3) (fe_var 6)) (fe_tup (fa_cons fe_int fa_nil))) fa_nil)))) (fe_callRD D__law_taken (hr.mono (by decide)) (pv 0) (fa_cons fe_int fa_nil)))) (fss_one (fs_append (pv 4) (fe_var 6)))) fss_nil))) PassesOwn.never) (fss_one (fs_frz 4 (fs_frz 3 (fs_ret (fe_tup (fa_cons (fe_var 3) (fa_cons (fe_b1 (cr_min rfl) ok_min T.n_min (by decide +kernel) (fe_var 4)) fa_nil))))))))))))
abbrev s__law_alike : Stmt := topS 49
abbrev N__law_alike : List Str := ["_law_found", "_law_due", "_law_k"]
theorem sc__law_alike : FnScope N__law_alike ["_law_found", "_law_due"] (defScope s__law_alike) := ⟨rfl, rfl, rfl, by decide +kernel, rfl, by decide +kernel, by decide +kernel⟩
def m__law_alike (F : List Vl → Option Vl) : Sx := (sSeq (sIf (mOr (mTst (m1 (isiD "tuple") (mVar 1))) (mTst (m1 (isiD "list") (mVar 1)))) (sSeq (sIf (mOr (mTst (m2 neD (m1 (isiD "tuple") (mVar 0)) (m1 (isiD "tuple") (mVar 1)))) (mNot (mTst (m1 (isi2D "tuple" "list") (mVar 0))))) (sRet (mC (.bool false))) sNx) (sSeq (sIf (mTst (m2 neD (m1 lenD (mVar 0)) (m1 lenD (mVar 1)))) (sRet (mC (.bool false))) sNx) (sRet (m2 eqD (mList (mLc [2] (mRg1 (m1 lenD (mVar 1))) (gNm 2) (mNot (mTst (mCall F (mCons (m2 ixD (mVar 0) (mVar 2)) (mCons (m2 ixD (mVar 1) (mVar 2)) mNil))))) (mVar 2))) (mList (mLst mNil)))))) sNx) (sSeq (sIf (mOr (mTst (m2 isND (mVar 1) (mC .none))) (mTst (m2 isND (mVar 0) (mC .none)))) (sRet (mAndV (m2 isND (mVar 1) (mC .none)) (m2 isND (mVar 0) (mC .none)))) sNx) (sSeq (sIf (mOr (mTst (m1 (isiD "bool") (mVar 1))) (mTst (m1 (isiD "bool") (mVar 0)))) (sRet (mAndV (m1 (isiD "bool") (mVar 1)) (mAndV (m1 (isiD "bool") (mVar 0)) (m2 eqD (mVar 0) (mVar 1))))) sNx) (sSeq (sIf (mTst (m1 (isiD "str") (mVar 1))) (sRet (mAndV (m1 (isiD "str") (mVar 0)) (m2 eqD (mVar 0) (mVar 1)))) sNx) (sRet (mAndV (m1 (isiD "int") (mVar 0)) (m2 eqD (mVar 0) (mVar 1))))))))
def F__law_alike : Nat → List Vl → Option Vl
  | 0 => fun _ => none
  | n + 1 => bodyP 3 2 (m__law_alike (F__law_alike n))
theorem ok__law_alike_ (T : Tx K w mg C) (h : Hr K mg "_law_alike" s__law_alike) : ∀ n, Dn Pg w K mg base CX0 (1 + n) "_law_alike" ["_law_found", "_law_due"] (spP (pm K ns C) (F__law_alike n))
  | 0 => dn_none h (fun _ _ _ _ _ _ us hl => match us, hl with | [_, _], _ => rfl)
  | n + 1 => by
    have ih := ok__law_alike_ T h n
    exact dn_P (fx := fun _ => 0) h sc__law_alike (by decide) (fun _ _ _ _ _ _ us hl => match us, hl with | [_, _], _ => rfl) (fun f cdv A outer s H E hr => 
    (fss_cons (fs_if (ft_w (fw_or (ft_val (fe_isi (T := "tuple") (fe_var 1) T.n_isinstance (by decide) T.n_tuple (by decide +kernel))) (fw_or1 (ft_val (fe_isi (T := "list") (fe_var 1) T.n_isinstance (by decide) T.n_list (by decide +kernel)))))) (fss_cons (fs_if (ft_w (fw_or (ft_cmp (op_neDD (hu64 hr)) ok_ne (fe_isi (T := "tuple") (fe_var 0) T.n_isinstance (by decide) T.n_tuple (by decide +kernel)) (fe_isi (T := "tuple") (fe_var 1) T.n_isinstance (by decide) T.n_tuple (by decide +kernel)) (nomark _)) (fw_or1 (ft_not (ft_val (fe_isi2 (T := "tuple") (U := "list") (fe_var 0) T.n_isinstance (by decide) (by decide) T.n_tuple (by decide +kernel) T.n_list (by decide +kernel))))))) (fss_one (fs_ret fe_bl)) fss_nil) (fss_cons (fs_if (ft_cmp (op_neDD (hu64 hr)) ok_ne (fe_b1 FL.call_lenD ok_len T.n_len (by decide +kernel) (fe_var 0)) (fe_b1 FL.call_lenD ok_len T.n_len (by decide +kernel) (fe_var 1)) (nomark _)) (fss_one (fs_ret fe_bl)) fss_nil) (fss_one (fs_ret (fe_cmp (op_eqDD (hu64 hr)) ok_eq (fe_list (fl_lc (fi_rg1 (fe_b1 FL.call_lenD ok_len T.n_len (by decide +kernel) (fe_var 1)) T.n_range) (blkOk_by (own := [("_law_k", 2)]) (N := N__law_alike) (sc := defScope s__law_alike) (by decide +kernel)) rfl (gok_name 2) (fun _ _ _ _ _ => (pg_name (i := 2) sc__law_alike.nd rfl (by first | exact Or.inl rfl | exact Or.inr rfl) (by first | exact Or.inl rfl | exact Or.inr rfl))) (fun _ _ _ _ _ => (fts_one (ft_not (ft_val (fe_callD ih hr (fa_cons (fe_ix (fe_var 0) (fe_var 2)) (fa_cons (fe_ix (fe_var 1) (fe_var 2)) fa_nil))))))) (fun _ _ _ _ _ => (fe_var 2)) sc__law_alike.nd)) (fe_list (fl_lst fa_nil)) (nomark _)))))) fss_nil) (fss_cons (fs_if (ft_w (fw_or (ft_cmp op_isN ok_isN (fe_var 1) fe_non (nomark _)) (fw_or1 (ft_cmp op_isN ok_isN (fe_var 0) fe_non (nomark _))))) (fss_one (fs_ret (fe_and (fe_cmp op_isN ok_isN (fe_var 1) fe_non (nomark _)) (fe_one (fe_cmp op_isN ok_isN (fe_var 0) fe_non (nomark _)))))) fss_nil) (fss_cons (fs_if (ft_w (fw_or (ft_val (fe_isi (T := "bool") (fe_var 1) T.n_isinstance (by decide) T.n_bool (by decide +kernel))) (fw_or1 (ft_val (fe_isi (T := "bool") (fe_var 0) T.n_isinstance (by decide) T.n_bool (by decide +kernel)))))) (fss_one (fs_ret (fe_and (fe_isi (T := "bool") (fe_var 1) T.n_isinstance (by decide) T.n_bool (by decide +kernel)) (fe_and (fe_isi (T := "bool") (fe_var 0) T.n_isinstance (by decide) T.n_bool (by decide +kernel)) (fe_one (fe_cmp (op_eqDD (hu64 hr)) ok_eq (fe_var 0) (fe_var 1) (nomark _))))))) fss_nil) (fss_cons (fs_if (ft_val (fe_isi (T := "str") (fe_var 1) T.n_isinstance (by decide) T.n_str (by decide +kernel))) (fss_one (fs_ret (fe_and (fe_isi (T := "str") (fe_var 0) T.n_isinstance (by decide) T.n_str (by decide +kernel)) (fe_one (fe_cmp (op_eqDD (hu64 hr)) ok_eq (fe_var 0) (fe_var 1) (nomark _)))))) fss_nil) (fss_one (fs_ret (fe_and (fe_isi (T := "int") (fe_var 0) T.n_isinstance (by decide) T.n_int (by decide +kernel)) (fe_one (fe_cmp (op_eqDD (hu64 hr)) ok_eq (fe_var 0) (fe_var 1) (nomark _)))))))))))
theorem ok__law_alike (T : Tx K w mg C) (h : Hr K mg "_law_alike" s__law_alike) : Dn Pg w K mg base CX0 6 "_law_alike" ["_law_found", "_law_due"] (spP (pm K ns C) (F__law_alike 5)) := ok__law_alike_ T h 5
abbrev s__law_refused : Stmt := topS 58
abbrev N__law_refused : List Str := ["_law_house", "_law_rows_here", "_law_told", "_law_way", "e"]
theorem sc__law_refused : FnScope N__law_refused ["_law_house", "_law_rows_here"] (defScope s__law_refused) := ⟨rfl, rfl, rfl, by decide +kernel, rfl, by decide +kernel, by decide +kernel⟩
def m__law_refused : Sx := (sSeq (sOwn 2 (mLst mNil)) (sSeq (sFor (mRg1 (mC (.int 2))) (gNm 3) (sTryA 4 2 2 "row" (sIf (mTst (m2 eqD (mVar 3) (mC (.int 0)))) (sDropX (mCallX F_passed (mCons (mVar 0) (mCons (mVar 1) mNil)))) (sDropX (mCallX F_kept (mCons (mVar 0) (mCons (mVar 1) mNil))))))) (sRetO 2)))
def F__law_refused : List Vl → Option Vl := bodyP 5 2 (m__law_refused)
theorem ok__law_refused (T : Tx K w mg C) (h : Hr K mg "_law_refused" s__law_refused) (TX : Tex K mg fx CT) (D_passed : Dn Pg w K mg base (L2.CX Pg w) 6 "passed" ["house", "rows"] (spX (pm K ns C) fx F_passed)) (D_kept : Dn Pg w K mg base (L2.CX Pg w) 7 "kept" ["house", "rows"] (spX (pm K ns C) fx F_kept)) : Dn Pg w K mg base CX0 8 "_law_refused" ["_law_house", "_law_rows_here"] (spP (pm K ns C) F__law_refused) :=
  dn_P (fx := fx) h sc__law_refused (by decide) (fun _ _ _ _ _ _ us hl => match us, hl with | [_, _], _ => rfl) (fun f cdv A outer s H E hr => 
    (fss_cons (fs_own (i := 2) rfl (by first | exact Or.inl rfl | exact Or.inr rfl) (fl_lst fa_nil) sc__law_refused.nd (Or.inl rfl)) (fss_cons (fs_for (fi_rg1 fe_int T.n_range) (pg_name (i := 3) sc__law_refused.nd rfl (by first | exact Or.inl rfl | exact Or.inr rfl) (by first | exact Or.inl rfl | exact Or.inr rfl)) (gok_name 3) (fss_one (fs_tryA (i := 4) (j := 2) (c0 := 2) (f := "row") rfl rfl sc__law_refused.nd rfl rfl ⟨rfl, by decide, Or.inl TX.gT⟩ TX.e2 (fun W pn xe tk hp => (fss_one (fs_if (ft_cmp (op_eqDD (hu64 hr)) ok_eq (fe_var 3) fe_int (nomark _)) (fss_one (fs_exprX (fx_callD D_passed (hr.mono (by decide)) tk (fa_cons (fe_var 0) (fa_cons (fe_var 1) fa_nil))))) (fss_one (fs_exprX (fx_callD D_kept (hr.mono (by decide)) tk (fa_cons (fe_var 0) (fa_cons (fe_var 1) fa_nil)))))))) (fun a oe d pn hz hf => FE.suite_app TX.x2f TX.n2 hz hf ((FE.p0_or (FE.p0_not (FE.p0_isC (b := true) TX.c2 hz hf (pv 4) T.n_isinstance TX.g2 TX.k22)) (FE.p0_or (FE.p0_isC (b := false) TX.c2 hz hf (pv 4) T.n_isinstance TX.g0 TX.k20) (FE.p0_or (FE.p0_isC (b := false) TX.c2 hz hf (pv 4) T.n_isinstance TX.g1 TX.k21) (FE.p0_or1 (FE.p0_isC (b := false) TX.c2 hz hf (pv 4) T.n_isinstance TX.g3 TX.k23))))).pt) ⟨_, pss_never⟩ (pv 2) (pv 4)))) PassesOwn.never) (fss_one (fs_retO (pv 2))))))
abbrev s_is_name : Stmt := topS 37
abbrev N_is_name : List Str := ["text", "letter"]
theorem sc_is_name : FnScope N_is_name ["text"] (defScope s_is_name) := ⟨rfl, rfl, rfl, by decide +kernel, rfl, by decide +kernel, by decide +kernel⟩
def m_is_name : Sx := (sRet (mAndV (mChain leD leD (mC (.int 1)) (m1 lenD (mVar 0)) (mC (.int 8))) (m1 allD (mList (mLc [1] (mSeq (mVar 0)) (gNm 1) mYes (m2 inD (mVar 1) (mC (.str (PySem.Str.ofString "abcdefghijklmnopqrstuvwxyz")))))))))
def F_is_name : List Vl → Option Vl := bodyP 2 1 (m_is_name)
theorem ok_is_name (T : Tx K w mg C) (h : Hr K mg "is_name" s_is_name) : Dn Pg w K mg base CX0 1 "is_name" ["text"] (spP (pm K ns C) F_is_name) :=
  dn_P (fx := fun _ => 0) h sc_is_name (by decide) (fun _ _ _ _ _ _ us hl => match us, hl with | [_], _ => rfl) (fun f cdv A outer s H E hr => 
    (fss_one (fs_ret (fe_and (fe_chain op_le ok_le op_le ok_le fe_int (fe_b1 FL.call_lenD ok_len T.n_len (by decide +kernel) (fe_var 0)) (fe_globI T.g_LONGEST_NAME)) (fe_one (fe_b1 (cr_all rfl) ok_all T.n_all (by decide +kernel) (fe_list (fl_lc (fi_seq (fe_var 0)) (blkOk_by (own := [("letter", 1)]) (N := N_is_name) (sc := defScope s_is_name) (by decide +kernel)) rfl (gok_name 1) (fun _ _ _ _ _ => (pg_name (i := 1) sc_is_name.nd rfl (by first | exact Or.inl rfl | exact Or.inr rfl) (by first | exact Or.inl rfl | exact Or.inr rfl))) (fun _ _ _ _ _ => fts_nil) (fun _ _ _ _ _ => (fe_cmp (op_inDD (hu65 hr)) ok_in (fe_var 1) (fe_globS T.g_LETTERS) (by with_unfolding_all rfl))) sc_is_name.nd))))))))
abbrev s_are_marks : Stmt := topS 38
abbrev N_are_marks : List Str := ["marks", "mark", "low", "high"]
theorem sc_are_marks : FnScope N_are_marks ["marks"] (defScope s_are_marks) := ⟨rfl, rfl, rfl, by decide +kernel, rfl, by decide +kernel, by decide +kernel⟩
def m_are_marks : Sx := (sSeq (sIf (mNot (mTst (mChain leD leD (mC (.int 1)) (m1 lenD (mVar 0)) (mC (.int 3))))) (sRet (mC (.bool false))) sNx) (sSeq (sIf (mNot (mTst (m1 allD (mList (mLc [1] (mSeq (mVar 0)) (gNm 1) mYes (mChain leD leD (mC (.int (-99))) (mVar 1) (mC (.int 99)))))))) (sRet (mC (.bool false))) sNx) (sRet (m1 allD (mList (mLc [2, 3] (mZ3 (mVar 0) (mSl (mVar 0) (mSome (mC (.int 1))) mNone)) (gTp 2 (gsCons (gNm 2) (gsCons (gNm 3) gsNil))) mYes (m2 geD (m2 subD (mVar 3) (mVar 2)) (mC (.int 2)))))))))
def F_are_marks : List Vl → Option Vl := bodyP 4 1 (m_are_marks)
theorem ok_are_marks (T : Tx K w mg C) (h : Hr K mg "are_marks" s_are_marks) : Dn Pg w K mg base CX0 1 "are_marks" ["marks"] (spP (pm K ns C) F_are_marks) :=
  dn_P (fx := fun _ => 0) h sc_are_marks (by decide) (fun _ _ _ _ _ _ us hl => match us, hl with | [_], _ => rfl) (fun f cdv A outer s H E hr => 
    (fss_cons (fs_if (ft_not (ft_chain op_le ok_le op_le ok_le fe_int (fe_b1 FL.call_lenD ok_len T.n_len (by decide +kernel) (fe_var 0)) (fe_globI T.g_MOST_MARKS))) (fss_one (fs_ret fe_bl)) fss_nil) (fss_cons (fs_if (ft_not (ft_val (fe_b1 (cr_all rfl) ok_all T.n_all (by decide +kernel) (fe_list (fl_lc (fi_seq (fe_var 0)) (blkOk_by (own := [("mark", 1)]) (N := N_are_marks) (sc := defScope s_are_marks) (by decide +kernel)) rfl (gok_name 1) (fun _ _ _ _ _ => (pg_name (i := 1) sc_are_marks.nd rfl (by first | exact Or.inl rfl | exact Or.inr rfl) (by first | exact Or.inl rfl | exact Or.inr rfl))) (fun _ _ _ _ _ => fts_nil) (fun _ _ _ _ _ => (fe_chain op_le ok_le op_le ok_le (fe_globI T.g_LOWEST_MARK) (fe_var 1) (fe_globI T.g_HIGHEST_MARK))) sc_are_marks.nd))))) (fss_one (fs_ret fe_bl)) fss_nil) (fss_one (fs_ret (fe_b1 (cr_all rfl) ok_all T.n_all (by decide +kernel) (fe_list (fl_lc (fi_zip3 (fe_var 0) (fe_sl (fe_var 0) (fo_some fe_int) fo_none) T.n_zip) (blkOk_by (own := [("low", 2), ("high", 3)]) (N := N_are_marks) (sc := defScope s_are_marks) (by decide +kernel)) rfl (gok_tup 2 (gsok_cons (gok_name 2) (gsok_cons (gok_name 3) gsok_nil))) (fun _ _ _ _ _ => (pg_tup rfl (pgs_cons (pg_name (i := 2) sc_are_marks.nd rfl (by first | exact Or.inl rfl | exact Or.inr rfl) (by first | exact Or.inl rfl | exact Or.inr rfl)) (pgs_cons (pg_name (i := 3) sc_are_marks.nd rfl (by first | exact Or.inl rfl | exact Or.inr rfl) (by first | exact Or.inl rfl | exact Or.inr rfl)) pgs_nil)))) (fun _ _ _ _ _ => fts_nil) (fun _ _ _ _ _ => (fe_cmp op_ge ok_ge (fe_op op_sub ok_sub (fe_var 3) (fe_var 2)) (fe_globI T.g_LEAST_GAP) (nomark _))) sc_are_marks.nd))))))))
abbrev s_check_things : Stmt := topS 35
abbrev N_check_things : List Str := ["things", "names", "number", "name", "marks"]
theorem sc_check_things : FnScope N_check_things ["things"] (defScope s_check_things) := ⟨rfl, rfl, rfl, by decide +kernel, rfl, by decide +kernel, by decide +kernel⟩
def m_check_things : Sx := (sSeq (sIf (mNot (mTst (mChain leD leD (mC (.int 1)) (m1 lenD (mVar 0)) (mC (.int 3))))) sNo sNx) (sSeq (sOwn 1 (mLst mNil)) (sFor (mEn (mVar 0)) (gTp 2 (gsCons (gNm 2) (gsCons (gTp 2 (gsCons (gNm 3) (gsCons (gNm 4) gsNil))) gsNil))) (sSeq (sIf (mOr (mTst (mInO 1 (mVar 3))) (mOr (mNot (mTst (mCall F_is_name (mCons (mVar 3) mNil)))) (mNot (mTst (mCall F_are_marks (mCons (mVar 4) mNil)))))) sNo sNx) (sApp 1 (mVar 3))))))
def F_check_things : List Vl → Option Vl := bodyP 5 1 (m_check_things)
theorem ok_check_things (T : Tx K w mg C) (h : Hr K mg "check_things" s_check_things) (D_is_name : Dn Pg w K mg base CX0 1 "is_name" ["text"] (spP (pm K ns C) F_is_name)) (D_are_marks : Dn Pg w K mg base CX0 1 "are_marks" ["marks"] (spP (pm K ns C) F_are_marks)) : Dn Pg w K mg base CX0 2 "check_things" ["things"] (spP (pm K ns C) F_check_things) :=
  dn_P (fx := fun _ => 0) h sc_check_things (by decide) (fun _ _ _ _ _ _ us hl => match us, hl with | [_], _ => rfl) (fun f cdv A outer s H E hr => 
    (fss_cons (fs_if (ft_not (ft_chain op_le ok_le op_le ok_le fe_int (fe_b1 FL.call_lenD ok_len T.n_len (by decide +kernel) (fe_var 0)) (fe_globI T.g_MOST_THINGS))) (fss_one fs_no) fss_nil) (fss_cons (fs_own (i := 1) rfl (by first | exact Or.inl rfl | exact Or.inr rfl) (fl_lst fa_nil) sc_check_things.nd (Or.inl rfl)) (fss_one (fs_for (fi_enum (fe_var 0) T.n_enumerate) (pg_tup rfl (pgs_cons (pg_name (i := 2) sc_check_things.nd rfl (by first | exact Or.inl rfl | exact Or.inr rfl) (by first | exact Or.inl rfl | exact Or.inr rfl)) (pgs_cons (pg_tup rfl (pgs_cons (pg_name (i := 3) sc_check_things.nd rfl (by first | exact Or.inl rfl | exact Or.inr rfl) (by first | exact Or.inl rfl | exact Or.inr rfl)) (pgs_cons (pg_name (i := 4) sc_check_things.nd rfl (by first | exact Or.inl rfl | exact Or.inr rfl) (by first | exact Or.inl rfl | exact Or.inr rfl)) pgs_nil))) pgs_nil))) (gok_tup 2 (gsok_cons (gok_name 2) (gsok_cons (gok_tup 2 (gsok_cons (gok_name 3) (gsok_cons (gok_name 4) gsok_nil))) gsok_nil))) (fss_cons (fs_if (ft_w (fw_or (ft_inV (fe_var 3) (pv 1)) (fw_or (ft_not (ft_val (fe_callD D_is_name (hr.mono (by decide)) (fa_cons (fe_var 3) fa_nil)))) (fw_or1 (ft_not (ft_val (fe_callD D_are_marks (hr.mono (by decide)) (fa_cons (fe_var 4) fa_nil)))))))) (fss_one fs_no) fss_nil) (fss_one (fs_append (pv 1) (fe_var 3)))) PassesOwn.never)))))
abbrev s_is_number_below : Stmt := topS 40
abbrev N_is_number_below : List Str := ["number", "count"]
theorem sc_is_number_below : FnScope N_is_number_below ["number", "count"] (defScope s_is_number_below) := ⟨rfl, rfl, rfl, by decide +kernel, rfl, by decide +kernel, by decide +kernel⟩
def m_is_number_below : Sx := (sRet (mAndV (m1 (isiD "int") (mVar 0)) (mChain leD ltD (mC (.int 0)) (mVar 0) (mVar 1))))
def F_is_number_below : List Vl → Option Vl := bodyP 2 2 (m_is_number_below)
theorem ok_is_number_below (T : Tx K w mg C) (h : Hr K mg "is_number_below" s_is_number_below) : Dn Pg w K mg base CX0 1 "is_number_below" ["number", "count"] (spP (pm K ns C) F_is_number_below) :=
  dn_P (fx := fun _ => 0) h sc_is_number_below (by decide) (fun _ _ _ _ _ _ us hl => match us, hl with | [_, _], _ => rfl) (fun f cdv A outer s H E hr => 
    (fss_one (fs_ret (fe_and (fe_isi (T := "int") (fe_var 0) T.n_isinstance (by decide) T.n_int (by decide +kernel)) (fe_one (fe_chain op_le ok_le op_lt ok_lt fe_int (fe_var 0) (fe_var 1)))))))
abbrev s_is_tie : Stmt := topS 39
abbrev N_is_tie : List Str := ["things", "tie", "word", "many", "named", "rest", "marks", "at"]
theorem sc_is_tie : FnScope N_is_tie ["things", "tie"] (defScope s_is_tie) := ⟨rfl, rfl, rfl, by decide +kernel, rfl, by decide +kernel, by decide +kernel⟩
def m_is_tie : Sx := (sSeq (sIf (mOr (mTst (m2 eqD (m1 lenD (mVar 1)) (mC (.int 0)))) (mTst (m1 (ninG [(PySem.Str.ofString "with", 2), (PySem.Str.ofString "against", 2), (PySem.Str.ofString "sum", 3), (PySem.Str.ofString "product", 3), (PySem.Str.ofString "rate", 2), (PySem.Str.ofString "under", 1), (PySem.Str.ofString "over", 1)]) (m2 ixD (mVar 1) (mC (.int 0)))))) (sRet (mC (.bool false))) sNx) (sSeq (sSet 2 (m2 ixD (mVar 1) (mC (.int 0)))) (sSeq (sSet 3 (m1 (ixG [(PySem.Str.ofString "with", 2), (PySem.Str.ofString "against", 2), (PySem.Str.ofString "sum", 3), (PySem.Str.ofString "product", 3), (PySem.Str.ofString "rate", 2), (PySem.Str.ofString "under", 1), (PySem.Str.ofString "over", 1)]) (mVar 2))) (sSeq (sSet 4 (mSl (mVar 1) (mSome (mC (.int 1))) (mSome (m2 addD (mVar 3) (mC (.int 1)))))) (sSeq (sSet 5 (mSl (mVar 1) (mSome (m2 addD (mVar 3) (mC (.int 1)))) mNone)) (sSeq (sIf (mOr (mTst (m2 neD (m1 lenD (mVar 4)) (mVar 3))) (mNot (mTst (m1 allD (mList (mLc [7] (mSeq (mVar 4)) (gNm 7) mYes (mCall F_is_number_below (mCons (mVar 7) (mCons (m1 lenD (mVar 0)) mNil))))))))) (sRet (mC (.bool false))) sNx) (sSeq (sIf (mTst (m2 inD (mVar 2) (mC (.tuple [(.str (PySem.Str.ofString "rate")), (.str (PySem.Str.ofString "under")), (.str (PySem.Str.ofString "over"))])))) (sSeq (sSet 6 (m2 ixD (m2 ixD (mVar 0) (m2 ixD (mVar 4) (m1 negD (mC (.int 1))))) (mC (.int 1)))) (sRet (mAndV (m2 eqD (m1 lenD (mVar 5)) (mC (.int 1))) (mCall F_is_number_below (mCons (m2 ixD (mVar 5) (mC (.int 0))) (mCons (m1 lenD (mVar 6)) mNil)))))) sNx) (sRet (mAndV (m2 eqD (m1 lenD (mVar 5)) (mC (.int 0))) (m2 ninD (m2 ixD (mVar 4) (mC (.int 0))) (mSl (mVar 4) (mSome (mC (.int 1))) mNone)))))))))))
def F_is_tie : List Vl → Option Vl := bodyP 8 2 (m_is_tie)
theorem ok_is_tie (T : Tx K w mg C) (h : Hr K mg "is_tie" s_is_tie) (D_is_number_below : Dn Pg w K mg base CX0 1 "is_number_below" ["number", "count"] (spP (pm K ns C) F_is_number_below)) : Dn Pg w K mg base CX0 2 "is_tie" ["things", "tie"] (spP (pm K ns C) F_is_tie) :=
  dn_P (fx := fun _ => 0) h sc_is_tie (by decide) (fun _ _ _ _ _ _ us hl => match us, hl with | [_, _], _ => rfl) (fun f cdv A outer s H E hr => 
    (fss_cons (fs_if (ft_w (fw_or (ft_cmp (op_eqDD (hu64 hr)) ok_eq (fe_b1 FL.call_lenD ok_len T.n_len (by decide +kernel) (fe_var 1)) fe_int (nomark _)) (fw_or1 (ft_ninG T.g_THINGS_NAMED (fe_ix (fe_var 1) fe_int))))) (fss_one (fs_ret fe_bl)) fss_nil) (fss_cons (fs_set (i := 2) rfl (by first | exact Or.inl rfl | exact Or.inr rfl) (fe_ix (fe_var 1) fe_int) sc_is_tie.nd (Or.inl rfl)) (fss_cons (fs_set (i := 3) rfl (by first | exact Or.inl rfl | exact Or.inr rfl) (fe_ixG T.g_THINGS_NAMED (fe_var 2)) sc_is_tie.nd (Or.inl rfl)) (fss_cons (fs_set (i := 4) rfl (by first | exact Or.inl rfl | exact Or.inr rfl) (fe_sl (fe_var 1) (fo_some fe_int) (fo_some (fe_op op_addD ok_add (fe_var 3) fe_int))) sc_is_tie.nd (Or.inl rfl)) (fss_cons (fs_set (i := 5) rfl (by first | exact Or.inl rfl | exact Or.inr rfl) (fe_sl (fe_var 1) (fo_some (fe_op op_addD ok_add (fe_var 3) fe_int)) fo_none) sc_is_tie.nd (Or.inl rfl)) (fss_cons (fs_if (ft_w (fw_or (ft_cmp (op_neDD (hu64 hr)) ok_ne (fe_b1 FL.call_lenD ok_len T.n_len (by decide +kernel) (fe_var 4)) (fe_var 3) (nomark _)) (fw_or1 (ft_not (ft_val (fe_b1 (cr_all rfl) ok_all T.n_all (by decide +kernel) (fe_list (fl_lc (fi_seq (fe_var 4)) (blkOk_by (own := [("at", 7)]) (N := N_is_tie) (sc := defScope s_is_tie) (by decide +kernel)) rfl (gok_name 7) (fun _ _ _ _ _ => (pg_name (i := 7) sc_is_tie.nd rfl (by first | exact Or.inl rfl | exact Or.inr rfl) (by first | exact Or.inl rfl | exact Or.inr rfl))) (fun _ _ _ _ _ => fts_nil) (fun _ _ _ _ _ => (fe_callD D_is_number_below (hr.mono (by decide)) (fa_cons (fe_var 7) (fa_cons (fe_b1 FL.call_lenD ok_len T.n_len (by decide +kernel) (fe_var 0)) fa_nil)))) sc_is_tie.nd)))))))) (fss_one (fs_ret fe_bl)) fss_nil) (fss_cons (fs_if (ft_cmp (op_inDD (hu65 hr)) ok_in (fe_var 2) (fe_globT T.g_MARK_WORDS) (by with_unfolding_all rfl)) (fss_cons (fs_set (i := 6) rfl (by first | exact Or.inl rfl | exact Or.inr rfl) (fe_ix (fe_ix (fe_var 0) (fe_ix (fe_var 4) (fe_un un_neg ok_neg fe_int))) fe_int) sc_is_tie.nd (Or.inl rfl)) (fss_one (fs_ret (fe_and (fe_cmp (op_eqDD (hu64 hr)) ok_eq (fe_b1 FL.call_lenD ok_len T.n_len (by decide +kernel) (fe_var 5)) fe_int (nomark _)) (fe_one (fe_callD D_is_number_below (hr.mono (by decide)) (fa_cons (fe_ix (fe_var 5) fe_int) (fa_cons (fe_b1 FL.call_lenD ok_len T.n_len (by decide +kernel) (fe_var 6)) fa_nil)))))))) fss_nil) (fss_one (fs_ret (fe_and (fe_cmp (op_eqDD (hu64 hr)) ok_eq (fe_b1 FL.call_lenD ok_len T.n_len (by decide +kernel) (fe_var 5)) fe_int (nomark _)) (fe_one (fe_cmp (op_ninDD (hu65 hr)) ok_nin (fe_ix (fe_var 4) fe_int) (fe_sl (fe_var 4) (fo_some fe_int) fo_none) (by with_unfolding_all rfl))))))))))))))
abbrev s_check_ties : Stmt := topS 36
abbrev N_check_ties : List Str := ["things", "ties", "number", "tie"]
theorem sc_check_ties : FnScope N_check_ties ["things", "ties"] (defScope s_check_ties) := ⟨rfl, rfl, rfl, by decide +kernel, rfl, by decide +kernel, by decide +kernel⟩
def m_check_ties : Sx := (sSeq (sIf (mTst (m2 gtD (m1 lenD (mVar 1)) (mC (.int 6)))) sNo sNx) (sFor (mEn (mVar 1)) (gTp 2 (gsCons (gNm 2) (gsCons (gNm 3) gsNil))) (sIf (mNot (mTst (mCall F_is_tie (mCons (mVar 0) (mCons (mVar 3) mNil))))) sNo sNx)))
def F_check_ties : List Vl → Option Vl := bodyP 4 2 (m_check_ties)
theorem ok_check_ties (T : Tx K w mg C) (h : Hr K mg "check_ties" s_check_ties) (D_is_tie : Dn Pg w K mg base CX0 2 "is_tie" ["things", "tie"] (spP (pm K ns C) F_is_tie)) : Dn Pg w K mg base CX0 3 "check_ties" ["things", "ties"] (spP (pm K ns C) F_check_ties) :=
  dn_P (fx := fun _ => 0) h sc_check_ties (by decide) (fun _ _ _ _ _ _ us hl => match us, hl with | [_, _], _ => rfl) (fun f cdv A outer s H E hr => 
    (fss_cons (fs_if (ft_cmp op_gt ok_gt (fe_b1 FL.call_lenD ok_len T.n_len (by decide +kernel) (fe_var 1)) (fe_globI T.g_MOST_TIES) (nomark _)) (fss_one fs_no) fss_nil) (fss_one (fs_for (fi_enum (fe_var 1) T.n_enumerate) (pg_tup rfl (pgs_cons (pg_name (i := 2) sc_check_ties.nd rfl (by first | exact Or.inl rfl | exact Or.inr rfl) (by first | exact Or.inl rfl | exact Or.inr rfl)) (pgs_cons (pg_name (i := 3) sc_check_ties.nd rfl (by first | exact Or.inl rfl | exact Or.inr rfl) (by first | exact Or.inl rfl | exact Or.inr rfl)) pgs_nil))) (gok_tup 2 (gsok_cons (gok_name 2) (gsok_cons (gok_name 3) gsok_nil))) (fss_one (fs_if (ft_not (ft_val (fe_callD D_is_tie (hr.mono (by decide)) (fa_cons (fe_var 0) (fa_cons (fe_var 3) fa_nil))))) (fss_one fs_no) fss_nil)) PassesOwn.never))))
abbrev s_House_things : Stmt := inClass (topS 34) 1
theorem sc_House_things : FnScope ["self"] ["self"] (defScope s_House_things) := ⟨rfl, rfl, rfl, by decide +kernel, rfl, by decide +kernel, by decide +kernel⟩
theorem ok_House_things (T : Tx K w mg C) (h : Hm K C "things" "House.things" s_House_things) : Dm Pg w K mg base 1 C "things" (spL (pm K ns C) F_House_things) :=
  dm_L (mm := sRetL (bnd (m1 fThs (mVar 0)) fun x => opt (lstD x))) h sc_House_things (by decide) (fun _ _ _ _ _ _ us hl => match us, hl with | [_], _ => rfl) (fun f cdv A outer s H E hr => fss_one (fs_retL (fl_listOf (fe_fld_things T.cH T.h_things (fe_var 0)) T.n_list))) (fun xs ds e => match xs, e with | [.hse _ _], e => e)
abbrev s_House_ties : Stmt := inClass (topS 34) 2
theorem sc_House_ties : FnScope ["self"] ["self"] (defScope s_House_ties) := ⟨rfl, rfl, rfl, by decide +kernel, rfl, by decide +kernel, by decide +kernel⟩
theorem ok_House_ties (T : Tx K w mg C) (h : Hm K C "ties" "House.ties" s_House_ties) : Dm Pg w K mg base 1 C "ties" (spL (pm K ns C) F_House_ties) :=
  dm_L (mm := sRetL (bnd (m1 fTis (mVar 0)) fun x => opt (lstD x))) h sc_House_ties (by decide) (fun _ _ _ _ _ _ us hl => match us, hl with | [_], _ => rfl) (fun f cdv A outer s H E hr => fss_one (fs_retL (fl_listOf (fe_fld_ties T.cH T.h_ties (fe_var 0)) T.n_list))) (fun xs ds e => match xs, e with | [.hse _ _], e => e)
abbrev s_House_init : Stmt := inClass (topS 34) 0
theorem sc_House_init : FnScope psI psI (defScope s_House_init) := ⟨rfl, rfl, rfl, by decide +kernel, rfl, by decide +kernel, by decide +kernel⟩
theorem ok_House (T : Tx K w mg C) (h : ∃ f fd, Fun K "__init__" "House.__init__" s_House_init f fd ∧ Mk K C f ∧ mg "House" = some (.ref C)) (D_check_things : Dn Pg w K mg base CX0 2 "check_things" ["things"] (spP (pm K ns C) F_check_things)) (D_check_ties : Dn Pg w K mg base CX0 3 "check_ties" ["things", "ties"] (spP (pm K ns C) F_check_ties)) : Dh Pg w K mg base CX0 4 C (spI (pm K ns C) C (okI F_check_things F_check_ties)) := by
  obtain ⟨f, fd, G, M, g⟩ := h
  exact ⟨f, fd, init_ok G sc_House_init T.cH T.h_things T.h_ties (fun cdv A outer s H E hr => pss_cons (ps_expr (fe_callD D_check_things (hr.mono (by decide)) (fa_cons (fe_var 1) fa_nil))) (pss_cons (ps_expr (fe_callD D_check_ties (hr.mono (by decide)) (fa_cons (fe_var 1) (fa_cons (fe_var 2) fa_nil)))) (pss_cons (ps_fld (pv 0) (fl_listOf (fe_var 1) T.n_list) rfl) (pss_one (ps_fld (pv 0) (fl_listOf (fe_var 2) T.n_list) rfl))))), M, g, G.binds (fun _ _ _ _ _ _ us hl => match us, hl with | [_, _, _], _ => rfl)⟩
abbrev s_law : Stmt := topS 59
abbrev N_law : List Str := ["_law_script", "_law_row", "_law_things_here", "_law_ties_here", "_law_house", "_law_turn", "_law_rows_here", "_law_due", "_law_handed", "_law_found", "_law_told", "_law_none_here", "_law_number"]
theorem sc_law : FnScope N_law ["_law_script"] (defScope s_law) := ⟨rfl, rfl, rfl, by decide +kernel, rfl, by decide +kernel, by decide +kernel⟩
def m_law (ns : List Int) : Sx := (sSeq (sSet 2 (mCallR 1 (F__law_things ns) (mCons (mC (.int 3)) (mCons (mC (.int 3)) mNil)))) (sSeq (sSet 3 (mCallR 1 (F__law_ties ns) (mCons (mVar 2) (mCons (mC (.int 6)) mNil)))) (sSeq (sSet 4 (mMake F_check_things F_check_ties (mCons (m1 listD (mVar 2)) (mCons (m1 listD (mVar 3)) mNil)))) (sSeq (sFor (mRg1 (mC (.int 4))) (gNm 5) (sSeq (sSet 6 (mCallR 1 (F__law_run ns) (mCons (mVar 2) (mCons (mVar 3) mNil)))) (sSeq (sSet 7 (mCall F__law_passed (mCons (mVar 2) (mCons (mVar 6) mNil)))) (sSeq (sOwn 8 (bnd (mVar 6) fun x => opt (lstD x))) (sSeq (sOwn 9 (mBorL 8 (mCallL F_passed_L (mCons (mVar 4) (mCons (mVar 8) mNil))))) (sSeq (sSet 10 (mBorV 8 (mOk (mCallX F_kept (mCons (mVar 4) (mCons (mVar 8) mNil)))))) (sSeq (sIf (mBor 8 (mBor 9 (mOr (mNot (mTst (mCall (F__law_alike 5) (mCons (mVar 9) (mCons (mVar 7) mNil))))) (mOr (mNot (mTst (mCall (F__law_alike 5) (mCons (mVar 10) (mCons (mCall F__law_kept (mCons (mVar 3) (mCons (mVar 7) mNil))) mNil))))) (mTst (m2 neD (mVar 8) (mVar 6))))))) (sRet (mC (.bool false))) sNx) (sSeq (sClr 9) (sSeq (sClr 8) (sSeq (sTgt (gTp 2 (gsCons (gNm 11) (gsCons (gNm 12) gsNil))) (mCallR 1 (F__law_none ns) (mCons (mVar 6) mNil))) (sSeq (sIf (mNot (mTst (mCall (F__law_alike 5) (mCons (mCall F__law_refused (mCons (mVar 4) (mCons (mVar 11) mNil))) (mCons (mList (mLst (mCons (mVar 12) (mCons (mVar 12) mNil)))) mNil))))) (sRet (mC (.bool false))) sNx) (sIf (mOr (mNot (mTst (mCall (F__law_alike 5) (mCons (mList (mCallL F_passed_L (mCons (mVar 4) (mCons (mVar 6) mNil)))) (mCons (mVar 7) mNil))))) (mNot (mTst (mCall (F__law_alike 5) (mCons (mOk (mCallX F_kept (mCons (mVar 4) (mCons (mVar 6) mNil)))) (mCons (mVar 10) mNil)))))) (sRet (mC (.bool false))) sNx)))))))))))) (sRet (mC (.bool true)))))))
def F_law (ns : List Int) : Option Vl := bodyT 13 (m_law ns)
theorem ok_law (T : Tx K w mg C) {f : Addr} {fd : FuncData} (h : Fun K "law" "law" s_law f fd) (D__law_alike : ∀ ns, Dn Pg w K mg base CX0 6 "_law_alike" ["_law_found", "_law_due"] (spP (pm K ns C) (F__law_alike 5))) (D_passed_L : ∀ ns, Dn Pg w K mg base CX0 6 "passed" ["house", "rows"] (spL (pm K ns C) F_passed_L)) (D_kept : ∀ ns, Dn Pg w K mg base (L2.CX Pg w) 7 "kept" ["house", "rows"] (spX (pm K ns C) fx F_kept)) (D__law_refused : ∀ ns, Dn Pg w K mg base CX0 8 "_law_refused" ["_law_house", "_law_rows_here"] (spP (pm K ns C) F__law_refused)) (D__law_none : ∀ ns, Dn Pg w K mg base CX0 2 "_law_none" ["_law_row", "_law_rows_here"] (spR (pm K ns C) (F__law_none ns))) (D__law_kept : ∀ ns, Dn Pg w K mg base CX0 3 "_law_kept" ["_law_ties_here", "_law_every"] (spP (pm K ns C) F__law_kept)) (D__law_passed : ∀ ns, Dn Pg w K mg base CX0 3 "_law_passed" ["_law_things_here", "_law_rows_here"] (spP (pm K ns C) F__law_passed)) (D__law_run : ∀ ns, Dn Pg w K mg base CX0 6 "_law_run" ["_law_row", "_law_things_here", "_law_ties_here"] (spR (pm K ns C) (F__law_run ns))) (D_House : ∀ ns, Dh Pg w K mg base CX0 4 C (spI (pm K ns C) C (okI F_check_things F_check_ties))) (D__law_ties : ∀ ns, Dn Pg w K mg base CX0 3 "_law_ties" ["_law_row", "_law_things_here", "_law_most"] (spR (pm K ns C) (F__law_ties ns))) (D__law_things : ∀ ns, Dn Pg w K mg base CX0 3 "_law_things" ["_law_row", "_law_most", "_law_long"] (spR (pm K ns C) (F__law_things ns))) : FnOk Pg w K mg base CX0 9 f fd ["_law_script"] (spT K F_law) :=
  fn_T (fx := fx) h sc_law (by decide) (fun ns cdv A outer s H E hr => have D__law_alike := D__law_alike ns; have D_passed_L := D_passed_L ns; have D_kept := D_kept ns; have D__law_refused := D__law_refused ns; have D__law_none := D__law_none ns; have D__law_kept := D__law_kept ns; have D__law_passed := D__law_passed ns; have D__law_run := D__law_run ns; have D_House := D_House ns; have D__law_ties := D__law_ties ns; have D__law_things := D__law_things ns; pss_cons (ps_set (i := 1) sc_law.nd rfl (by first | exact Or.inl rfl | exact Or.inr rfl) (pe_lst (pa_cons (pv 0) (pa_cons pe_int (pa_cons pe_int pa_nil)))) rfl (Or.inl rfl))
    (fss_cons (fs_set (i := 2) rfl (by first | exact Or.inl rfl | exact Or.inr rfl) (fe_callRD D__law_things (hr.mono (by decide)) (pv 1) (fa_cons fe_int (fa_cons fe_int fa_nil))) sc_law.nd (Or.inl rfl)) (fss_cons (fs_set (i := 3) rfl (by first | exact Or.inl rfl | exact Or.inr rfl) (fe_callRD D__law_ties (hr.mono (by decide)) (pv 1) (fa_cons (fe_var 2) (fa_cons fe_int fa_nil))) sc_law.nd (Or.inl rfl)) (fss_cons (fs_set (i := 4) rfl (by first | exact Or.inl rfl | exact Or.inr rfl) (fe_make D_House (hr.mono (by decide)) (fa_cons (fe_t1 FL.call_lstD ok_list T.n_list (by decide +kernel) (fe_var 2)) (fa_cons (fe_t1 FL.call_lstD ok_list T.n_list (by decide +kernel) (fe_var 3)) fa_nil))) sc_law.nd (Or.inl rfl)) (fss_cons (fs_for (fi_rg1 fe_int T.n_range) (pg_name (i := 5) sc_law.nd rfl (by first | exact Or.inl rfl | exact Or.inr rfl) (by first | exact Or.inl rfl | exact Or.inr rfl)) (gok_name 5) (fss_cons (fs_set (i := 6) rfl (by first | exact Or.inl rfl | exact Or.inr rfl) (fe_callRD D__law_run (hr.mono (by decide)) (pv 1) (fa_cons (fe_var 2) (fa_cons (fe_var 3) fa_nil))) sc_law.nd (Or.inl rfl)) (fss_cons (fs_set (i := 7) rfl (by first | exact Or.inl rfl | exact Or.inr rfl) (fe_callD D__law_passed (hr.mono (by decide)) (fa_cons (fe_var 2) (fa_cons (fe_var 6) fa_nil))) sc_law.nd (Or.inl rfl)) (fss_cons (fs_own (i := 8) rfl (by first | exact Or.inl rfl | exact Or.inr rfl) (fl_listOf (fe_var 6) T.n_list) sc_law.nd (Or.inl rfl)) (fss_cons (fs_own (i := 9) rfl (by first | exact Or.inl rfl | exact Or.inr rfl) (fl_bor 8 (fl_callD D_passed_L (hr.mono (by decide)) (fa_cons (fe_var 4) (fa_cons (fe_var 8) fa_nil)))) sc_law.nd (Or.inl rfl)) (fss_cons (fs_set (i := 10) rfl (by first | exact Or.inl rfl | exact Or.inr rfl) (fe_bor 8 (fe_ok (fx_callD (fx := fx) D_kept (hr.mono (by decide)) (takesF (X := _)) (fa_cons (fe_var 4) (fa_cons (fe_var 8) fa_nil))))) sc_law.nd (Or.inl rfl)) (fss_cons (fs_if (ft_bor 8 (ft_bor 9 (ft_w (fw_or (ft_not (ft_val (fe_callD D__law_alike (hr.mono (by decide)) (fa_cons (fe_var 9) (fa_cons (fe_var 7) fa_nil))))) (fw_or (ft_not (ft_val (fe_callD D__law_alike (hr.mono (by decide)) (fa_cons (fe_var 10) (fa_cons (fe_callD D__law_kept (hr.mono (by decide)) (fa_cons (fe_var 3) (fa_cons (fe_var 7) fa_nil))) fa_nil))))) (fw_or1 (ft_cmp (op_neDD (hu64 hr)) ok_ne (fe_var 8) (fe_var 6) (nomark _)))))))) (fss_one (fs_ret fe_bl)) fss_nil) (fss_cons (fs_clear (pv 9)) (fss_cons (fs_clear (pv 8)) (fss_cons (fs_tgt (fe_callRD D__law_none (hr.mono (by decide)) (pv 1) (fa_cons (fe_var 6) fa_nil)) (pg_tup rfl (pgs_cons (pg_name (i := 11) sc_law.nd rfl (by first | exact Or.inl rfl | exact Or.inr rfl) (by first | exact Or.inl rfl | exact Or.inr rfl)) (pgs_cons (pg_name (i := 12) sc_law.nd rfl (by first | exact Or.inl rfl | exact Or.inr rfl) (by first | exact Or.inl rfl | exact Or.inr rfl)) pgs_nil))) (gok_tup 2 (gsok_cons (gok_name 11) (gsok_cons (gok_name 12) gsok_nil)))) (fss_cons (fs_if (ft_not (ft_val (fe_callD D__law_alike (hr.mono (by decide)) (fa_cons (fe_callD D__law_refused (hr.mono (by decide)) (fa_cons (fe_var 4) (fa_cons (fe_var 11) fa_nil))) (fa_cons (fe_list (fl_lst (fa_cons (fe_var 12) (fa_cons (fe_var 12) fa_nil)))) fa_nil))))) (fss_one (fs_ret fe_bl)) fss_nil) (fss_one (fs_if (ft_w (fw_or (ft_not (ft_val (fe_callD D__law_alike (hr.mono (by decide)) (fa_cons (fe_list (fl_callD D_passed_L (hr.mono (by decide)) (fa_cons (fe_var 4) (fa_cons (fe_var 6) fa_nil)))) (fa_cons (fe_var 7) fa_nil))))) (fw_or1 (ft_not (ft_val (fe_callD D__law_alike (hr.mono (by decide)) (fa_cons (fe_ok (fx_callD (fx := fx) D_kept (hr.mono (by decide)) (takesF (X := _)) (fa_cons (fe_var 4) (fa_cons (fe_var 6) fa_nil)))) (fa_cons (fe_var 10) fa_nil)))))))) (fss_one (fs_ret fe_bl)) fss_nil)))))))))))) PassesOwn.never) (fss_one (fs_ret fe_bl)))))))
end
theorem all_mk {l : PySem.W.OpenLaw} {w : World} {K : PySem.W.Frag} {h : Heap} {mg : Str → Option Value} {fa : Addr} (X : K.In h) (G : h.Ns mainGlobals mg) (hfa : mg "law" = some (.ref fa))
    {od1 an1 : Option Addr} {sl1 : Array (Option Value)} {oc1 kV1 dc1 pm1 cd1 ct1 : Value} {f1 : Addr}
    {od2 an2 : Option Addr} {sl2 : Array (Option Value)} {oc2 kV2 dc2 pm2 cd2 ct2 : Value} {f2 : Addr}
    {od3 an3 : Option Addr} {sl3 : Array (Option Value)} {oc3 kV3 dc3 pm3 cd3 ct3 : Value} {f3 : Addr}
    {od4 an4 : Option Addr} {sl4 : Array (Option Value)} {oc4 kV4 dc4 pm4 cd4 ct4 : Value} {f4 : Addr}
    {od5 an5 : Option Addr} {sl5 : Array (Option Value)} {oc5 kV5 dc5 pm5 cd5 ct5 : Value} {f5 : Addr}
    {od6 an6 : Option Addr} {sl6 : Array (Option Value)} {oc6 kV6 dc6 pm6 cd6 ct6 : Value} {f6 : Addr}
    {od7 an7 : Option Addr} {sl7 : Array (Option Value)} {oc7 kV7 dc7 pm7 cd7 ct7 : Value} {f7 : Addr}
    {od8 an8 : Option Addr} {sl8 : Array (Option Value)} {oc8 kV8 dc8 pm8 cd8 ct8 : Value} {f8 : Addr}
    {od9 an9 : Option Addr} {sl9 : Array (Option Value)} {oc9 kV9 dc9 pm9 cd9 ct9 : Value} {f9 : Addr}
    {od10 an10 : Option Addr} {sl10 : Array (Option Value)} {oc10 kV10 dc10 pm10 cd10 ct10 : Value} {f10 : Addr}
    {od11 an11 : Option Addr} {sl11 : Array (Option Value)} {oc11 kV11 dc11 pm11 cd11 ct11 : Value} {f11 : Addr}
    {od12 an12 : Option Addr} {sl12 : Array (Option Value)} {oc12 kV12 dc12 pm12 cd12 ct12 : Value} {f12 : Addr}
    {od13 an13 : Option Addr} {sl13 : Array (Option Value)} {oc13 kV13 dc13 pm13 cd13 ct13 : Value} {f13 : Addr}
    {od14 an14 : Option Addr} {sl14 : Array (Option Value)} {oc14 kV14 dc14 pm14 cd14 ct14 : Value} {f14 : Addr}
    {od15 an15 : Option Addr} {sl15 : Array (Option Value)} {oc15 kV15 dc15 pm15 cd15 ct15 : Value} {f15 : Addr}
    {od16 an16 : Option Addr} {sl16 : Array (Option Value)} {oc16 kV16 dc16 pm16 cd16 ct16 : Value} {f16 : Addr}
    {od17 an17 : Option Addr} {sl17 : Array (Option Value)} {oc17 kV17 dc17 pm17 cd17 ct17 : Value} {f17 : Addr}
    {od18 an18 : Option Addr} {sl18 : Array (Option Value)} {oc18 kV18 dc18 pm18 cd18 ct18 : Value} {f18 : Addr}
    {od19 an19 : Option Addr} {sl19 : Array (Option Value)} {oc19 kV19 dc19 pm19 cd19 ct19 : Value} {f19 : Addr}
    {od20 an20 : Option Addr} {sl20 : Array (Option Value)} {oc20 kV20 dc20 pm20 cd20 ct20 : Value} {f20 : Addr}
    {od21 an21 : Option Addr} {sl21 : Array (Option Value)} {oc21 kV21 dc21 pm21 cd21 ct21 : Value} {f21 : Addr}
    {od22 an22 : Option Addr} {sl22 : Array (Option Value)} {oc22 kV22 dc22 pm22 cd22 ct22 : Value} {f22 : Addr}
    {od23 an23 : Option Addr} {sl23 : Array (Option Value)} {oc23 kV23 dc23 pm23 cd23 ct23 : Value} {f23 : Addr}
    {od24 an24 : Option Addr} {sl24 : Array (Option Value)} {oc24 kV24 dc24 pm24 cd24 ct24 : Value} {f24 : Addr}
    {od25 an25 : Option Addr} {sl25 : Array (Option Value)} {oc25 kV25 dc25 pm25 cd25 ct25 : Value} {f25 : Addr}
    {od26 an26 : Option Addr} {sl26 : Array (Option Value)} {oc26 kV26 dc26 pm26 cd26 ct26 : Value} {f26 : Addr}
    {od27 an27 : Option Addr} {sl27 : Array (Option Value)} {oc27 kV27 dc27 pm27 cd27 ct27 : Value} {f27 : Addr}
    {od28 an28 : Option Addr} {sl28 : Array (Option Value)} {oc28 kV28 dc28 pm28 cd28 ct28 : Value} {f28 : Addr}
    {od29 an29 : Option Addr} {sl29 : Array (Option Value)} {oc29 kV29 dc29 pm29 cd29 ct29 : Value} {f29 : Addr}
    {od30 an30 : Option Addr} {sl30 : Array (Option Value)} {oc30 kV30 dc30 pm30 cd30 ct30 : Value} {f30 : Addr}
    {od31 an31 : Option Addr} {sl31 : Array (Option Value)} {oc31 kV31 dc31 pm31 cd31 ct31 : Value} {f31 : Addr}
    {od32 an32 : Option Addr} {sl32 : Array (Option Value)} {oc32 kV32 dc32 pm32 cd32 ct32 : Value} {f32 : Addr}
    {od33 an33 : Option Addr} {sl33 : Array (Option Value)} {oc33 kV33 dc33 pm33 cd33 ct33 : Value} {f33 : Addr}
    {od34 an34 : Option Addr} {sl34 : Array (Option Value)} {oc34 kV34 dc34 pm34 cd34 ct34 : Value} {f34 : Addr}
    {od35 an35 : Option Addr} {sl35 : Array (Option Value)} {oc35 kV35 dc35 pm35 cd35 ct35 : Value} {f35 : Addr}
    {od36 an36 : Option Addr} {sl36 : Array (Option Value)} {oc36 kV36 dc36 pm36 cd36 ct36 : Value} {f36 : Addr}
    {od37 an37 : Option Addr} {sl37 : Array (Option Value)} {oc37 kV37 dc37 pm37 cd37 ct37 : Value} {f37 : Addr}
    {od38 an38 : Option Addr} {sl38 : Array (Option Value)} {oc38 kV38 dc38 pm38 cd38 ct38 : Value} {f38 : Addr}
    {C : Addr}
    {od39 an39 : Option Addr} {sl39 : Array (Option Value)} {oc39 kV39 dc39 pm39 cd39 ct39 : Value} {f39 : Addr}
    {od40 an40 : Option Addr} {sl40 : Array (Option Value)} {oc40 kV40 dc40 pm40 cd40 ct40 : Value} {f40 : Addr}
    {od41 an41 : Option Addr} {sl41 : Array (Option Value)} {oc41 kV41 dc41 pm41 cd41 ct41 : Value} {f41 : Addr}
    {t_FEWEST_ROWS : Tok}
    {t_LETTERS : Tok}
    {t_LONGEST_NAME : Tok}
    {t_MOST_THINGS : Tok}
    {t_MOST_MARKS : Tok}
    {t_MOST_TIES : Tok}
    {t_LOWEST_MARK : Tok}
    {t_HIGHEST_MARK : Tok}
    {t_LEAST_GAP : Tok}
    {a_THINGS_NAMED n_THINGS_NAMED : Nat} {e_THINGS_NAMED : Array DictEntry}
    {a_MARK_WORDS n_MARK_WORDS : Nat} {e_MARK_WORDS : Array Value} {o_MARK_WORDS : Option Addr} {s_MARK_WORDS : Array (Option Value)}
    {C0 C1 C2 C3 CT : Addr}
    {fE2 cE2 kE2 NE2 : Addr} {odE2 anE2 cddE2 xdE2 ddE2 : Option Addr} {slE2 ccsE2 xsE2 : Array (Option Value)} {ocE2 kVE2 dcE2 pmE2 ctE2 clE2 xlE2 : Value} {fvE2 : Array Value} {flE2 nmE2 qnE2 : Str} {tfE2 : Tok} {bsE2 bmE2 sbE2 : List Value} {snE2 : List Str} {abE2 : Bool} {coE2 : Option Bool} {h0E2 h1E2 h2E2 h3E2 h5E2 : Option Value}
    (a1 : PySem.W.nsIn K mainGlobals "_law_taken" = some (some (.ref f1)))
    (l1 : K.lookup f1 = some ⟨oc1, od1, .func (PySem.W.fnOf "_law_taken" "_law_taken" (defArgs s__law_taken) (defBody s__law_taken) (defScope s__law_taken) .none kV1 dc1 pm1 an1 cd1 ct1), sl1⟩)
    (c1 : PySem.W.codeIn K cd1 "_law_taken" = true)
    (k1 : PySem.W.keepIn K (.ref f1) = true)
    (a2 : PySem.W.nsIn K mainGlobals "_law_marks" = some (some (.ref f2)))
    (l2 : K.lookup f2 = some ⟨oc2, od2, .func (PySem.W.fnOf "_law_marks" "_law_marks" (defArgs s__law_marks) (defBody s__law_marks) (defScope s__law_marks) .none kV2 dc2 pm2 an2 cd2 ct2), sl2⟩)
    (c2 : PySem.W.codeIn K cd2 "_law_marks" = true)
    (k2 : PySem.W.keepIn K (.ref f2) = true)
    (a3 : PySem.W.nsIn K mainGlobals "_law_things" = some (some (.ref f3)))
    (l3 : K.lookup f3 = some ⟨oc3, od3, .func (PySem.W.fnOf "_law_things" "_law_things" (defArgs s__law_things) (defBody s__law_things) (defScope s__law_things) .none kV3 dc3 pm3 an3 cd3 ct3), sl3⟩)
    (c3 : PySem.W.codeIn K cd3 "_law_things" = true)
    (k3 : PySem.W.keepIn K (.ref f3) = true)
    (a4 : PySem.W.nsIn K mainGlobals "_law_tie" = some (some (.ref f4)))
    (l4 : K.lookup f4 = some ⟨oc4, od4, .func (PySem.W.fnOf "_law_tie" "_law_tie" (defArgs s__law_tie) (defBody s__law_tie) (defScope s__law_tie) .none kV4 dc4 pm4 an4 cd4 ct4), sl4⟩)
    (c4 : PySem.W.codeIn K cd4 "_law_tie" = true)
    (k4 : PySem.W.keepIn K (.ref f4) = true)
    (a5 : PySem.W.nsIn K mainGlobals "_law_ties" = some (some (.ref f5)))
    (l5 : K.lookup f5 = some ⟨oc5, od5, .func (PySem.W.fnOf "_law_ties" "_law_ties" (defArgs s__law_ties) (defBody s__law_ties) (defScope s__law_ties) .none kV5 dc5 pm5 an5 cd5 ct5), sl5⟩)
    (c5 : PySem.W.codeIn K cd5 "_law_ties" = true)
    (k5 : PySem.W.keepIn K (.ref f5) = true)
    (a6 : PySem.W.nsIn K mainGlobals "_law_keeps" = some (some (.ref f6)))
    (l6 : K.lookup f6 = some ⟨oc6, od6, .func (PySem.W.fnOf "_law_keeps" "_law_keeps" (defArgs s__law_keeps) (defBody s__law_keeps) (defScope s__law_keeps) .none kV6 dc6 pm6 an6 cd6 ct6), sl6⟩)
    (c6 : PySem.W.codeIn K cd6 "_law_keeps" = true)
    (k6 : PySem.W.keepIn K (.ref f6) = true)
    (a7 : PySem.W.nsIn K mainGlobals "_law_first" = some (some (.ref f7)))
    (l7 : K.lookup f7 = some ⟨oc7, od7, .func (PySem.W.fnOf "_law_first" "_law_first" (defArgs s__law_first) (defBody s__law_first) (defScope s__law_first) .none kV7 dc7 pm7 an7 cd7 ct7), sl7⟩)
    (c7 : PySem.W.codeIn K cd7 "_law_first" = true)
    (k7 : PySem.W.keepIn K (.ref f7) = true)
    (a8 : PySem.W.nsIn K mainGlobals "_law_kept" = some (some (.ref f8)))
    (l8 : K.lookup f8 = some ⟨oc8, od8, .func (PySem.W.fnOf "_law_kept" "_law_kept" (defArgs s__law_kept) (defBody s__law_kept) (defScope s__law_kept) .none kV8 dc8 pm8 an8 cd8 ct8), sl8⟩)
    (c8 : PySem.W.codeIn K cd8 "_law_kept" = true)
    (k8 : PySem.W.keepIn K (.ref f8) = true)
    (a9 : PySem.W.nsIn K mainGlobals "_law_spot" = some (some (.ref f9)))
    (l9 : K.lookup f9 = some ⟨oc9, od9, .func (PySem.W.fnOf "_law_spot" "_law_spot" (defArgs s__law_spot) (defBody s__law_spot) (defScope s__law_spot) .none kV9 dc9 pm9 an9 cd9 ct9), sl9⟩)
    (c9 : PySem.W.codeIn K cd9 "_law_spot" = true)
    (k9 : PySem.W.keepIn K (.ref f9) = true)
    (a10 : PySem.W.nsIn K mainGlobals "_law_hour_of" = some (some (.ref f10)))
    (l10 : K.lookup f10 = some ⟨oc10, od10, .func (PySem.W.fnOf "_law_hour_of" "_law_hour_of" (defArgs s__law_hour_of) (defBody s__law_hour_of) (defScope s__law_hour_of) .none kV10 dc10 pm10 an10 cd10 ct10), sl10⟩)
    (c10 : PySem.W.codeIn K cd10 "_law_hour_of" = true)
    (k10 : PySem.W.keepIn K (.ref f10) = true)
    (a11 : PySem.W.nsIn K mainGlobals "_law_hour" = some (some (.ref f11)))
    (l11 : K.lookup f11 = some ⟨oc11, od11, .func (PySem.W.fnOf "_law_hour" "_law_hour" (defArgs s__law_hour) (defBody s__law_hour) (defScope s__law_hour) .none kV11 dc11 pm11 an11 cd11 ct11), sl11⟩)
    (c11 : PySem.W.codeIn K cd11 "_law_hour" = true)
    (k11 : PySem.W.keepIn K (.ref f11) = true)
    (a12 : PySem.W.nsIn K mainGlobals "_law_rows" = some (some (.ref f12)))
    (l12 : K.lookup f12 = some ⟨oc12, od12, .func (PySem.W.fnOf "_law_rows" "_law_rows" (defArgs s__law_rows) (defBody s__law_rows) (defScope s__law_rows) .none kV12 dc12 pm12 an12 cd12 ct12), sl12⟩)
    (c12 : PySem.W.codeIn K cd12 "_law_rows" = true)
    (k12 : PySem.W.keepIn K (.ref f12) = true)
    (a13 : PySem.W.nsIn K mainGlobals "_law_run" = some (some (.ref f13)))
    (l13 : K.lookup f13 = some ⟨oc13, od13, .func (PySem.W.fnOf "_law_run" "_law_run" (defArgs s__law_run) (defBody s__law_run) (defScope s__law_run) .none kV13 dc13 pm13 an13 cd13 ct13), sl13⟩)
    (c13 : PySem.W.codeIn K cd13 "_law_run" = true)
    (k13 : PySem.W.keepIn K (.ref f13) = true)
    (a14 : PySem.W.nsIn K mainGlobals "_law_passed" = some (some (.ref f14)))
    (l14 : K.lookup f14 = some ⟨oc14, od14, .func (PySem.W.fnOf "_law_passed" "_law_passed" (defArgs s__law_passed) (defBody s__law_passed) (defScope s__law_passed) .none kV14 dc14 pm14 an14 cd14 ct14), sl14⟩)
    (c14 : PySem.W.codeIn K cd14 "_law_passed" = true)
    (k14 : PySem.W.keepIn K (.ref f14) = true)
    (a15 : PySem.W.nsIn K mainGlobals "check_run" = some (some (.ref f15)))
    (l15 : K.lookup f15 = some ⟨oc15, od15, .func (PySem.W.fnOf "check_run" "check_run" (defArgs s_check_run) (defBody s_check_run) (defScope s_check_run) .none kV15 dc15 pm15 an15 cd15 ct15), sl15⟩)
    (c15 : PySem.W.codeIn K cd15 "check_run" = true)
    (k15 : PySem.W.keepIn K (.ref f15) = true)
    (a16 : PySem.W.nsIn K mainGlobals "parts_of_hour" = some (some (.ref f16)))
    (l16 : K.lookup f16 = some ⟨oc16, od16, .func (PySem.W.fnOf "parts_of_hour" "parts_of_hour" (defArgs s_parts_of_hour) (defBody s_parts_of_hour) (defScope s_parts_of_hour) .none kV16 dc16 pm16 an16 cd16 ct16), sl16⟩)
    (c16 : PySem.W.codeIn K cd16 "parts_of_hour" = true)
    (k16 : PySem.W.keepIn K (.ref f16) = true)
    (a17 : PySem.W.nsIn K mainGlobals "mark_place" = some (some (.ref f17)))
    (l17 : K.lookup f17 = some ⟨oc17, od17, .func (PySem.W.fnOf "mark_place" "mark_place" (defArgs s_mark_place) (defBody s_mark_place) (defScope s_mark_place) .none kV17 dc17 pm17 an17 cd17 ct17), sl17⟩)
    (c17 : PySem.W.codeIn K cd17 "mark_place" = true)
    (k17 : PySem.W.keepIn K (.ref f17) = true)
    (a18 : PySem.W.nsIn K mainGlobals "place_of" = some (some (.ref f18)))
    (l18 : K.lookup f18 = some ⟨oc18, od18, .func (PySem.W.fnOf "place_of" "place_of" (defArgs s_place_of) (defBody s_place_of) (defScope s_place_of) .none kV18 dc18 pm18 an18 cd18 ct18), sl18⟩)
    (c18 : PySem.W.codeIn K cd18 "place_of" = true)
    (k18 : PySem.W.keepIn K (.ref f18) = true)
    (a19 : PySem.W.nsIn K mainGlobals "is_mark" = some (some (.ref f19)))
    (l19 : K.lookup f19 = some ⟨oc19, od19, .func (PySem.W.fnOf "is_mark" "is_mark" (defArgs s_is_mark) (defBody s_is_mark) (defScope s_is_mark) .none kV19 dc19 pm19 an19 cd19 ct19), sl19⟩)
    (c19 : PySem.W.codeIn K cd19 "is_mark" = true)
    (k19 : PySem.W.keepIn K (.ref f19) = true)
    (a20 : PySem.W.nsIn K mainGlobals "state_behind" = some (some (.ref f20)))
    (l20 : K.lookup f20 = some ⟨oc20, od20, .func (PySem.W.fnOf "state_behind" "state_behind" (defArgs s_state_behind) (defBody s_state_behind) (defScope s_state_behind) .none kV20 dc20 pm20 an20 cd20 ct20), sl20⟩)
    (c20 : PySem.W.codeIn K cd20 "state_behind" = true)
    (k20 : PySem.W.keepIn K (.ref f20) = true)
    (a21 : PySem.W.nsIn K mainGlobals "sign" = some (some (.ref f21)))
    (l21 : K.lookup f21 = some ⟨oc21, od21, .func (PySem.W.fnOf "sign" "sign" (defArgs s_sign) (defBody s_sign) (defScope s_sign) .none kV21 dc21 pm21 an21 cd21 ct21), sl21⟩)
    (c21 : PySem.W.codeIn K cd21 "sign" = true)
    (k21 : PySem.W.keepIn K (.ref f21) = true)
    (a22 : PySem.W.nsIn K mainGlobals "room_behind" = some (some (.ref f22)))
    (l22 : K.lookup f22 = some ⟨oc22, od22, .func (PySem.W.fnOf "room_behind" "room_behind" (defArgs s_room_behind) (defBody s_room_behind) (defScope s_room_behind) .none kV22 dc22 pm22 an22 cd22 ct22), sl22⟩)
    (c22 : PySem.W.codeIn K cd22 "room_behind" = true)
    (k22 : PySem.W.keepIn K (.ref f22) = true)
    (a23 : PySem.W.nsIn K mainGlobals "rooms_of_hour" = some (some (.ref f23)))
    (l23 : K.lookup f23 = some ⟨oc23, od23, .func (PySem.W.fnOf "rooms_of_hour" "rooms_of_hour" (defArgs s_rooms_of_hour) (defBody s_rooms_of_hour) (defScope s_rooms_of_hour) .none kV23 dc23 pm23 an23 cd23 ct23), sl23⟩)
    (c23 : PySem.W.codeIn K cd23 "rooms_of_hour" = true)
    (k23 : PySem.W.keepIn K (.ref f23) = true)
    (a24 : PySem.W.nsIn K mainGlobals "passed" = some (some (.ref f24)))
    (l24 : K.lookup f24 = some ⟨oc24, od24, .func (PySem.W.fnOf "passed" "passed" (defArgs s_passed) (defBody s_passed) (defScope s_passed) .none kV24 dc24 pm24 an24 cd24 ct24), sl24⟩)
    (c24 : PySem.W.codeIn K cd24 "passed" = true)
    (k24 : PySem.W.keepIn K (.ref f24) = true)
    (a25 : PySem.W.nsIn K mainGlobals "may_be_sum" = some (some (.ref f25)))
    (l25 : K.lookup f25 = some ⟨oc25, od25, .func (PySem.W.fnOf "may_be_sum" "may_be_sum" (defArgs s_may_be_sum) (defBody s_may_be_sum) (defScope s_may_be_sum) .none kV25 dc25 pm25 an25 cd25 ct25), sl25⟩)
    (c25 : PySem.W.codeIn K cd25 "may_be_sum" = true)
    (k25 : PySem.W.keepIn K (.ref f25) = true)
    (a26 : PySem.W.nsIn K mainGlobals "keeps" = some (some (.ref f26)))
    (l26 : K.lookup f26 = some ⟨oc26, od26, .func (PySem.W.fnOf "keeps" "keeps" (defArgs s_keeps) (defBody s_keeps) (defScope s_keeps) .none kV26 dc26 pm26 an26 cd26 ct26), sl26⟩)
    (c26 : PySem.W.codeIn K cd26 "keeps" = true)
    (k26 : PySem.W.keepIn K (.ref f26) = true)
    (a27 : PySem.W.nsIn K mainGlobals "first_broken" = some (some (.ref f27)))
    (l27 : K.lookup f27 = some ⟨oc27, od27, .func (PySem.W.fnOf "first_broken" "first_broken" (defArgs s_first_broken) (defBody s_first_broken) (defScope s_first_broken) .none kV27 dc27 pm27 an27 cd27 ct27), sl27⟩)
    (c27 : PySem.W.codeIn K cd27 "first_broken" = true)
    (k27 : PySem.W.keepIn K (.ref f27) = true)
    (a28 : PySem.W.nsIn K mainGlobals "kept" = some (some (.ref f28)))
    (l28 : K.lookup f28 = some ⟨oc28, od28, .func (PySem.W.fnOf "kept" "kept" (defArgs s_kept) (defBody s_kept) (defScope s_kept) .none kV28 dc28 pm28 an28 cd28 ct28), sl28⟩)
    (c28 : PySem.W.codeIn K cd28 "kept" = true)
    (k28 : PySem.W.keepIn K (.ref f28) = true)
    (a29 : PySem.W.nsIn K mainGlobals "_law_none" = some (some (.ref f29)))
    (l29 : K.lookup f29 = some ⟨oc29, od29, .func (PySem.W.fnOf "_law_none" "_law_none" (defArgs s__law_none) (defBody s__law_none) (defScope s__law_none) .none kV29 dc29 pm29 an29 cd29 ct29), sl29⟩)
    (c29 : PySem.W.codeIn K cd29 "_law_none" = true)
    (k29 : PySem.W.keepIn K (.ref f29) = true)
    (a30 : PySem.W.nsIn K mainGlobals "_law_alike" = some (some (.ref f30)))
    (l30 : K.lookup f30 = some ⟨oc30, od30, .func (PySem.W.fnOf "_law_alike" "_law_alike" (defArgs s__law_alike) (defBody s__law_alike) (defScope s__law_alike) .none kV30 dc30 pm30 an30 cd30 ct30), sl30⟩)
    (c30 : PySem.W.codeIn K cd30 "_law_alike" = true)
    (k30 : PySem.W.keepIn K (.ref f30) = true)
    (a31 : PySem.W.nsIn K mainGlobals "_law_refused" = some (some (.ref f31)))
    (l31 : K.lookup f31 = some ⟨oc31, od31, .func (PySem.W.fnOf "_law_refused" "_law_refused" (defArgs s__law_refused) (defBody s__law_refused) (defScope s__law_refused) .none kV31 dc31 pm31 an31 cd31 ct31), sl31⟩)
    (c31 : PySem.W.codeIn K cd31 "_law_refused" = true)
    (k31 : PySem.W.keepIn K (.ref f31) = true)
    (a32 : PySem.W.nsIn K mainGlobals "is_name" = some (some (.ref f32)))
    (l32 : K.lookup f32 = some ⟨oc32, od32, .func (PySem.W.fnOf "is_name" "is_name" (defArgs s_is_name) (defBody s_is_name) (defScope s_is_name) .none kV32 dc32 pm32 an32 cd32 ct32), sl32⟩)
    (c32 : PySem.W.codeIn K cd32 "is_name" = true)
    (k32 : PySem.W.keepIn K (.ref f32) = true)
    (a33 : PySem.W.nsIn K mainGlobals "are_marks" = some (some (.ref f33)))
    (l33 : K.lookup f33 = some ⟨oc33, od33, .func (PySem.W.fnOf "are_marks" "are_marks" (defArgs s_are_marks) (defBody s_are_marks) (defScope s_are_marks) .none kV33 dc33 pm33 an33 cd33 ct33), sl33⟩)
    (c33 : PySem.W.codeIn K cd33 "are_marks" = true)
    (k33 : PySem.W.keepIn K (.ref f33) = true)
    (a34 : PySem.W.nsIn K mainGlobals "check_things" = some (some (.ref f34)))
    (l34 : K.lookup f34 = some ⟨oc34, od34, .func (PySem.W.fnOf "check_things" "check_things" (defArgs s_check_things) (defBody s_check_things) (defScope s_check_things) .none kV34 dc34 pm34 an34 cd34 ct34), sl34⟩)
    (c34 : PySem.W.codeIn K cd34 "check_things" = true)
    (k34 : PySem.W.keepIn K (.ref f34) = true)
    (a35 : PySem.W.nsIn K mainGlobals "is_number_below" = some (some (.ref f35)))
    (l35 : K.lookup f35 = some ⟨oc35, od35, .func (PySem.W.fnOf "is_number_below" "is_number_below" (defArgs s_is_number_below) (defBody s_is_number_below) (defScope s_is_number_below) .none kV35 dc35 pm35 an35 cd35 ct35), sl35⟩)
    (c35 : PySem.W.codeIn K cd35 "is_number_below" = true)
    (k35 : PySem.W.keepIn K (.ref f35) = true)
    (a36 : PySem.W.nsIn K mainGlobals "is_tie" = some (some (.ref f36)))
    (l36 : K.lookup f36 = some ⟨oc36, od36, .func (PySem.W.fnOf "is_tie" "is_tie" (defArgs s_is_tie) (defBody s_is_tie) (defScope s_is_tie) .none kV36 dc36 pm36 an36 cd36 ct36), sl36⟩)
    (c36 : PySem.W.codeIn K cd36 "is_tie" = true)
    (k36 : PySem.W.keepIn K (.ref f36) = true)
    (a37 : PySem.W.nsIn K mainGlobals "check_ties" = some (some (.ref f37)))
    (l37 : K.lookup f37 = some ⟨oc37, od37, .func (PySem.W.fnOf "check_ties" "check_ties" (defArgs s_check_ties) (defBody s_check_ties) (defScope s_check_ties) .none kV37 dc37 pm37 an37 cd37 ct37), sl37⟩)
    (c37 : PySem.W.codeIn K cd37 "check_ties" = true)
    (k37 : PySem.W.keepIn K (.ref f37) = true)
    (a38 : PySem.W.nsIn K mainGlobals "law" = some (some (.ref f38)))
    (l38 : K.lookup f38 = some ⟨oc38, od38, .func (PySem.W.fnOf "law" "law" (defArgs s_law) (defBody s_law) (defScope s_law) .none kV38 dc38 pm38 an38 cd38 ct38), sl38⟩)
    (c38 : PySem.W.codeIn K cd38 "law" = true)
    (k38 : PySem.W.keepIn K (.ref f38) = true)
    (aC : PySem.W.nsIn K mainGlobals "House" = some (some (.ref C)))
    (m39 : PySem.W.findIn K (.ref C) "__init__" = some (some (.ref f39)))
    (i39 : PySem.W.isFn K (.ref f39) = true)
    (l39 : K.lookup f39 = some ⟨oc39, od39, .func (PySem.W.fnOf "__init__" "House.__init__" (defArgs s_House_init) (defBody s_House_init) (defScope s_House_init) .none kV39 dc39 pm39 an39 cd39 ct39), sl39⟩)
    (c39 : PySem.W.codeIn K cd39 "House.__init__" = true)
    (k39 : PySem.W.keepIn K (.ref f39) = true)
    (m40 : PySem.W.findIn K (.ref C) "things" = some (some (.ref f40)))
    (i40 : PySem.W.isFn K (.ref f40) = true)
    (l40 : K.lookup f40 = some ⟨oc40, od40, .func (PySem.W.fnOf "things" "House.things" (defArgs s_House_things) (defBody s_House_things) (defScope s_House_things) .none kV40 dc40 pm40 an40 cd40 ct40), sl40⟩)
    (c40 : PySem.W.codeIn K cd40 "House.things" = true)
    (k40 : PySem.W.keepIn K (.ref f40) = true)
    (m41 : PySem.W.findIn K (.ref C) "ties" = some (some (.ref f41)))
    (i41 : PySem.W.isFn K (.ref f41) = true)
    (l41 : K.lookup f41 = some ⟨oc41, od41, .func (PySem.W.fnOf "ties" "House.ties" (defArgs s_House_ties) (defBody s_House_ties) (defScope s_House_ties) .none kV41 dc41 pm41 an41 cd41 ct41), sl41⟩)
    (c41 : PySem.W.codeIn K cd41 "House.ties" = true)
    (k41 : PySem.W.keepIn K (.ref f41) = true)
    (pg : PySem.W.plainGet K C Str.empty = true)
    (hd : PySem.W.hasDictIn K C = true)
    (po : PySem.W.plainOver K C = true)
    (sa : PySem.W.findIn K (.ref C) "__setattr__" = some (some (.builtin "object.__setattr__")))
    (mk : PySem.W.makesIn K C = true)
    (kc : PySem.W.keepIn K (.ref C) = true)
    (nT : PySem.W.findIn K (.ref C) "_things" = some none)
    (nI : PySem.W.findIn K (.ref C) "_ties" = some none)
    (z_ValueError : PySem.W.nsIn K mainGlobals "ValueError" = some none)
    (z_len : PySem.W.nsIn K mainGlobals "len" = some none)
    (z_tuple : PySem.W.nsIn K mainGlobals "tuple" = some none)
    (z_list : PySem.W.nsIn K mainGlobals "list" = some none)
    (z_int : PySem.W.nsIn K mainGlobals "int" = some none)
    (z_abs : PySem.W.nsIn K mainGlobals "abs" = some none)
    (z_all : PySem.W.nsIn K mainGlobals "all" = some none)
    (z_max : PySem.W.nsIn K mainGlobals "max" = some none)
    (z_min : PySem.W.nsIn K mainGlobals "min" = some none)
    (z_range : PySem.W.nsIn K mainGlobals "range" = some none)
    (z_enumerate : PySem.W.nsIn K mainGlobals "enumerate" = some none)
    (z_zip : PySem.W.nsIn K mainGlobals "zip" = some none)
    (z_isinstance : PySem.W.nsIn K mainGlobals "isinstance" = some none)
    (z_bool : PySem.W.nsIn K mainGlobals "bool" = some none)
    (z_str : PySem.W.nsIn K mainGlobals "str" = some none)
    (z_sorted : PySem.W.nsIn K mainGlobals "sorted" = some none)
    (z_set : PySem.W.nsIn K mainGlobals "set" = some none)
    (g_FEWEST_ROWS : PySem.W.nsIn K mainGlobals "FEWEST_ROWS" = some (some (.int 2 t_FEWEST_ROWS)))
    (g_LETTERS : PySem.W.nsIn K mainGlobals "LETTERS" = some (some (.str (PySem.Str.ofString "abcdefghijklmnopqrstuvwxyz") t_LETTERS)))
    (g_LONGEST_NAME : PySem.W.nsIn K mainGlobals "LONGEST_NAME" = some (some (.int 8 t_LONGEST_NAME)))
    (g_MOST_THINGS : PySem.W.nsIn K mainGlobals "MOST_THINGS" = some (some (.int 3 t_MOST_THINGS)))
    (g_MOST_MARKS : PySem.W.nsIn K mainGlobals "MOST_MARKS" = some (some (.int 3 t_MOST_MARKS)))
    (g_MOST_TIES : PySem.W.nsIn K mainGlobals "MOST_TIES" = some (some (.int 6 t_MOST_TIES)))
    (g_LOWEST_MARK : PySem.W.nsIn K mainGlobals "LOWEST_MARK" = some (some (.int (-99) t_LOWEST_MARK)))
    (g_HIGHEST_MARK : PySem.W.nsIn K mainGlobals "HIGHEST_MARK" = some (some (.int 99 t_HIGHEST_MARK)))
    (g_LEAST_GAP : PySem.W.nsIn K mainGlobals "LEAST_GAP" = some (some (.int 2 t_LEAST_GAP)))
    (g_THINGS_NAMED : PySem.W.nsIn K mainGlobals "THINGS_NAMED" = some (some (.ref a_THINGS_NAMED)))
    (h_THINGS_NAMED : K.lookup a_THINGS_NAMED = some ⟨.type "dict", none, .dict e_THINGS_NAMED n_THINGS_NAMED, #[]⟩)
    (e_THINGS_NAMED_ : EnL w.params e_THINGS_NAMED.toList [(PySem.Str.ofString "with", 2), (PySem.Str.ofString "against", 2), (PySem.Str.ofString "sum", 3), (PySem.Str.ofString "product", 3), (PySem.Str.ofString "rate", 2), (PySem.Str.ofString "under", 1), (PySem.Str.ofString "over", 1)])
    (s_THINGS_NAMED : (a_THINGS_NAMED == sysModules) = false)
    (g_MARK_WORDS : PySem.W.nsIn K mainGlobals "MARK_WORDS" = some (some (.ref a_MARK_WORDS)))
    (h_MARK_WORDS : K.lookup a_MARK_WORDS = some ⟨.type "tuple", o_MARK_WORDS, .seq e_MARK_WORDS n_MARK_WORDS, s_MARK_WORDS⟩)
    (v_MARK_WORDS : Vals [(.str (PySem.Str.ofString "rate")), (.str (PySem.Str.ofString "under")), (.str (PySem.Str.ofString "over"))] e_MARK_WORDS.toList)
    (w_MARK_WORDS : e_MARK_WORDS.size ≤ sizeLine)
    (g0 : PySem.W.nsIn K mainGlobals "BadHouse" = some (some (.ref C0)))
    (g1 : PySem.W.nsIn K mainGlobals "BadRoom" = some (some (.ref C1)))
    (g2 : PySem.W.nsIn K mainGlobals "BadRun" = some (some (.ref C2)))
    (g3 : PySem.W.nsIn K mainGlobals "BadText" = some (some (.ref C3)))
    (gT : PySem.W.nsIn K mainGlobals "TrendError" = some (some (.ref CT)))
    (xT1 : PySem.W.subIn K (.ref CT) (.type "BaseException") = some true)
    (xT2 : PySem.W.hasDictIn K CT = true)
    (xT3 : PySem.W.typeIn K (.ref CT) = some (.type "type"))
    (z2T : PySem.W.subIn K (.ref C2) (.ref CT) = some true)
    (y2_1 : PySem.W.findIn K (.ref C2) "__getattribute__" = some (some (.builtin "BaseException.__getattribute__")))
    (y2_2 : PySem.W.findIn K (.ref C2) "__getattr__" = some none)
    (y2_3 : PySem.W.subIn K (.ref C2) (.type "BaseException") = some true)
    (y2_4 : PySem.W.hasDictIn K C2 = true)
    (n2r : PySem.W.findIn K (.ref C2) "row" = some none)
    (y2_5 : PySem.W.findIn K (.ref C2) "__class__" = some (some (.builtin "object.__class__")))
    (y6 : PySem.W.specialIn K (.builtin "object.__class__") "__get__" = some (some (.builtin "getset_descriptor.__get__")))
    (y7 : PySem.W.takesIn K (.builtin "object.__class__") = some true)
    (y2_8 : PySem.W.mroIn K C2 (.type "object") = some true)
    (n2_0 : ((Value.ref C2 : Value) == .ref C0) = false)
    (u0 : PySem.W.isClsIn K C0 = true)
    (v0 : PySem.W.typeIn K (.ref C0) = some (.type "type"))
    (w2_0 : PySem.W.subIn K (.ref C2) (.ref C0) = some false)
    (n2_1 : ((Value.ref C2 : Value) == .ref C1) = false)
    (u1 : PySem.W.isClsIn K C1 = true)
    (v1 : PySem.W.typeIn K (.ref C1) = some (.type "type"))
    (w2_1 : PySem.W.subIn K (.ref C2) (.ref C1) = some false)
    (n2_3 : ((Value.ref C2 : Value) == .ref C3) = false)
    (u3 : PySem.W.isClsIn K C3 = true)
    (v3 : PySem.W.typeIn K (.ref C3) = some (.type "type"))
    (w2_3 : PySem.W.subIn K (.ref C2) (.ref C3) = some false)
    (mE2 : PySem.W.findIn K (.ref C2) "__init__" = some (some (.ref fE2)))
    (iE2 : PySem.W.typeIn K (.ref fE2) = some (.type "function"))
    (lE2 : K.lookup fE2 = some ⟨ocE2, odE2, .func (PySem.W.fnX "__init__" "BadRun.__init__" (defArgs s_BadRun_init) (defBody s_BadRun_init) (defScope s_BadRun_init) [(("__class__" : Str), kE2)] .none kVE2 dcE2 pmE2 anE2 (.ref cE2) ctE2), slE2⟩)
    (cdE2 : PySem.W.codeIn K (.ref cE2) "BadRun.__init__" = true)
    (coE2_ : K.lookup cE2 = some ⟨clE2, cddE2, .fields fvE2, ccsE2⟩)
    (fvE2_ : fvE2[2]? = some (.str flE2 tfE2))
    (fiE2 : ((l.prog.main.file : Str) == flE2) = true)
    (ceE2 : K.lookup kE2 = some ⟨xlE2, xdE2, .cell (some (.ref C2)), xsE2⟩)
    (suE2 : PySem.W.ks_superIn K C2 C2 "__init__" = some (some (.builtin "ValueError.__init__")))
    (oxE2 : K.lookup C2 = some (excClassObj nmE2 qnE2 C2 NE2 bsE2 bmE2 true snE2 sbE2 abE2 coE2 ddE2 h0E2 h1E2 h2E2 h3E2 h5E2 "ValueError.__new__"))
    (rvE2 : PySem.HandSPX.refsVE bmE2 = true)
    (saE2 : PySem.W.findIn K (.ref C2) "__setattr__" = some (some (.builtin "object.__setattr__")))
    (keE2 : PySem.W.keepIn K (.ref C2) = true)
    (wVE2 : PySem.W.subIn K (.ref C2) (.type "ValueError") = some true)
    (mrE2 : PySem.W.mroIn K C2 (.ref C2) = some true)
    (hfE20 : PySem.W.findIn K (.ref C2) "row" = some none)
    (v2 : PySem.W.typeIn K (.ref C2) = some (.type "type"))
    (anyE : PySem.W.nsIn K cStatics "thirdparty.any" = some none)
    (msE : (l.prog.main.scope.names.lookup ("super" : Str)).isSome = false)
    (zsE : PySem.W.nsIn K mainGlobals "super" = some none) :
    ∃ fd : FuncData, (∀ (s : Shared) (v : Value), BindsTo s fd ⟨[v], []⟩ [("_law_script", v)]) ∧ ∀ base : Heap, K.In base → base.Ns mainGlobals mg → FnOk l.prog w K mg base CX0 9 fa fd ["_law_script"] (spT K F_law) := by
  have e := hfa.symm.trans (PySem.W.mg_of X G a38)
  cases e
  refine ⟨PySem.W.fnOf "law" "law" (defArgs s_law) (defBody s_law) (defScope s_law) .none kV38 dc38 pm38 an38 cd38 ct38, fun s v => .of_eq rfl, fun base _ _ => ?_⟩
  have T : Tx K w mg C := ⟨⟨pg, hd, po, sa⟩, nT, nI, PySem.W.mg_none_of X G z_ValueError, PySem.W.mg_none_of X G z_len, PySem.W.mg_none_of X G z_tuple, PySem.W.mg_none_of X G z_list, PySem.W.mg_none_of X G z_int, PySem.W.mg_none_of X G z_abs, PySem.W.mg_none_of X G z_all, PySem.W.mg_none_of X G z_max, PySem.W.mg_none_of X G z_min, PySem.W.mg_none_of X G z_range, PySem.W.mg_none_of X G z_enumerate, PySem.W.mg_none_of X G z_zip, PySem.W.mg_none_of X G z_isinstance, PySem.W.mg_none_of X G z_bool, PySem.W.mg_none_of X G z_str, PySem.W.mg_none_of X G z_sorted, PySem.W.mg_none_of X G z_set, ⟨t_FEWEST_ROWS, PySem.W.mg_of X G g_FEWEST_ROWS⟩, ⟨t_LETTERS, PySem.W.mg_of X G g_LETTERS⟩, ⟨t_LONGEST_NAME, PySem.W.mg_of X G g_LONGEST_NAME⟩, ⟨t_MOST_THINGS, PySem.W.mg_of X G g_MOST_THINGS⟩, ⟨t_MOST_MARKS, PySem.W.mg_of X G g_MOST_MARKS⟩, ⟨t_MOST_TIES, PySem.W.mg_of X G g_MOST_TIES⟩, ⟨t_LOWEST_MARK, PySem.W.mg_of X G g_LOWEST_MARK⟩, ⟨t_HIGHEST_MARK, PySem.W.mg_of X G g_HIGHEST_MARK⟩, ⟨t_LEAST_GAP, PySem.W.mg_of X G g_LEAST_GAP⟩, gd_mk (PySem.W.mg_of X G g_THINGS_NAMED) h_THINGS_NAMED e_THINGS_NAMED_ s_THINGS_NAMED, ⟨a_MARK_WORDS, PySem.W.mg_of X G g_MARK_WORDS, fun H => dr_ktup h_MARK_WORDS v_MARK_WORDS w_MARK_WORDS (by repeat constructor)⟩⟩
  have TX : Tex K mg (fun n => match n with | 0 => C0 | 2 => C2 | 3 => C3 | _ => C1) CT := ⟨PySem.W.mg_of X G gT, PySem.W.exm_ref xT1 xT2 xT3 z2T, ⟨y2_1, y2_2, y2_3, y2_4⟩, n2r, ⟨y2_1, y2_2, y2_3, y2_4, y2_5, y6, y7, y2_8⟩, PySem.W.mg_of X G g2, kit_self, PySem.W.mg_of X G g0, kit_ref n2_0 u0 v0 w2_0, PySem.W.mg_of X G g1, kit_ref n2_1 u1 v1 w2_1, PySem.W.mg_of X G g3, kit_ref n2_3 u3 v3 w2_3⟩
  have r1 : Hr K mg "_law_taken" s__law_taken := ⟨_, _, fun_mk (st := s__law_taken) l1 c1 k1, PySem.W.mg_of X G a1⟩
  have r2 : Hr K mg "_law_marks" s__law_marks := ⟨_, _, fun_mk (st := s__law_marks) l2 c2 k2, PySem.W.mg_of X G a2⟩
  have r3 : Hr K mg "_law_things" s__law_things := ⟨_, _, fun_mk (st := s__law_things) l3 c3 k3, PySem.W.mg_of X G a3⟩
  have r4 : Hr K mg "_law_tie" s__law_tie := ⟨_, _, fun_mk (st := s__law_tie) l4 c4 k4, PySem.W.mg_of X G a4⟩
  have r5 : Hr K mg "_law_ties" s__law_ties := ⟨_, _, fun_mk (st := s__law_ties) l5 c5 k5, PySem.W.mg_of X G a5⟩
  have r6 : Hr K mg "_law_keeps" s__law_keeps := ⟨_, _, fun_mk (st := s__law_keeps) l6 c6 k6, PySem.W.mg_of X G a6⟩
  have r7 : Hr K mg "_law_first" s__law_first := ⟨_, _, fun_mk (st := s__law_first) l7 c7 k7, PySem.W.mg_of X G a7⟩
  have r8 : Hr K mg "_law_kept" s__law_kept := ⟨_, _, fun_mk (st := s__law_kept) l8 c8 k8, PySem.W.mg_of X G a8⟩
  have r9 : Hr K mg "_law_spot" s__law_spot := ⟨_, _, fun_mk (st := s__law_spot) l9 c9 k9, PySem.W.mg_of X G a9⟩
  have r10 : Hr K mg "_law_hour_of" s__law_hour_of := ⟨_, _, fun_mk (st := s__law_hour_of) l10 c10 k10, PySem.W.mg_of X G a10⟩
  have r11 : Hr K mg "_law_hour" s__law_hour := ⟨_, _, fun_mk (st := s__law_hour) l11 c11 k11, PySem.W.mg_of X G a11⟩
  have r12 : Hr K mg "_law_rows" s__law_rows := ⟨_, _, fun_mk (st := s__law_rows) l12 c12 k12, PySem.W.mg_of X G a12⟩
  have r13 : Hr K mg "_law_run" s__law_run := ⟨_, _, fun_mk (st := s__law_run) l13 c13 k13, PySem.W.mg_of X G a13⟩
  have r14 : Hr K mg "_law_passed" s__law_passed := ⟨_, _, fun_mk (st := s__law_passed) l14 c14 k14, PySem.W.mg_of X G a14⟩
  have r15 : Hr K mg "check_run" s_check_run := ⟨_, _, fun_mk (st := s_check_run) l15 c15 k15, PySem.W.mg_of X G a15⟩
  have r16 : Hr K mg "parts_of_hour" s_parts_of_hour := ⟨_, _, fun_mk (st := s_parts_of_hour) l16 c16 k16, PySem.W.mg_of X G a16⟩
  have r17 : Hr K mg "mark_place" s_mark_place := ⟨_, _, fun_mk (st := s_mark_place) l17 c17 k17, PySem.W.mg_of X G a17⟩
  have r18 : Hr K mg "place_of" s_place_of := ⟨_, _, fun_mk (st := s_place_of) l18 c18 k18, PySem.W.mg_of X G a18⟩
  have r19 : Hr K mg "is_mark" s_is_mark := ⟨_, _, fun_mk (st := s_is_mark) l19 c19 k19, PySem.W.mg_of X G a19⟩
  have r20 : Hr K mg "state_behind" s_state_behind := ⟨_, _, fun_mk (st := s_state_behind) l20 c20 k20, PySem.W.mg_of X G a20⟩
  have r21 : Hr K mg "sign" s_sign := ⟨_, _, fun_mk (st := s_sign) l21 c21 k21, PySem.W.mg_of X G a21⟩
  have r22 : Hr K mg "room_behind" s_room_behind := ⟨_, _, fun_mk (st := s_room_behind) l22 c22 k22, PySem.W.mg_of X G a22⟩
  have r23 : Hr K mg "rooms_of_hour" s_rooms_of_hour := ⟨_, _, fun_mk (st := s_rooms_of_hour) l23 c23 k23, PySem.W.mg_of X G a23⟩
  have r24 : Hr K mg "passed" s_passed := ⟨_, _, fun_mk (st := s_passed) l24 c24 k24, PySem.W.mg_of X G a24⟩
  have r25 : Hr K mg "may_be_sum" s_may_be_sum := ⟨_, _, fun_mk (st := s_may_be_sum) l25 c25 k25, PySem.W.mg_of X G a25⟩
  have r26 : Hr K mg "keeps" s_keeps := ⟨_, _, fun_mk (st := s_keeps) l26 c26 k26, PySem.W.mg_of X G a26⟩
  have r27 : Hr K mg "first_broken" s_first_broken := ⟨_, _, fun_mk (st := s_first_broken) l27 c27 k27, PySem.W.mg_of X G a27⟩
  have r28 : Hr K mg "kept" s_kept := ⟨_, _, fun_mk (st := s_kept) l28 c28 k28, PySem.W.mg_of X G a28⟩
  have r29 : Hr K mg "_law_none" s__law_none := ⟨_, _, fun_mk (st := s__law_none) l29 c29 k29, PySem.W.mg_of X G a29⟩
  have r30 : Hr K mg "_law_alike" s__law_alike := ⟨_, _, fun_mk (st := s__law_alike) l30 c30 k30, PySem.W.mg_of X G a30⟩
  have r31 : Hr K mg "_law_refused" s__law_refused := ⟨_, _, fun_mk (st := s__law_refused) l31 c31 k31, PySem.W.mg_of X G a31⟩
  have r32 : Hr K mg "is_name" s_is_name := ⟨_, _, fun_mk (st := s_is_name) l32 c32 k32, PySem.W.mg_of X G a32⟩
  have r33 : Hr K mg "are_marks" s_are_marks := ⟨_, _, fun_mk (st := s_are_marks) l33 c33 k33, PySem.W.mg_of X G a33⟩
  have r34 : Hr K mg "check_things" s_check_things := ⟨_, _, fun_mk (st := s_check_things) l34 c34 k34, PySem.W.mg_of X G a34⟩
  have r35 : Hr K mg "is_number_below" s_is_number_below := ⟨_, _, fun_mk (st := s_is_number_below) l35 c35 k35, PySem.W.mg_of X G a35⟩
  have r36 : Hr K mg "is_tie" s_is_tie := ⟨_, _, fun_mk (st := s_is_tie) l36 c36 k36, PySem.W.mg_of X G a36⟩
  have r37 : Hr K mg "check_ties" s_check_ties := ⟨_, _, fun_mk (st := s_check_ties) l37 c37 k37, PySem.W.mg_of X G a37⟩
  have r40 : Hm K C "things" "House.things" s_House_things := ⟨_, _, fun_mk (st := s_House_things) l40 c40 k40, ⟨m40, i40, k40⟩⟩
  have D_House_things := fun ns : List Int => ok_House_things (Pg := l.prog) (base := base) (ns := ns) T r40
  have r41 : Hm K C "ties" "House.ties" s_House_ties := ⟨_, _, fun_mk (st := s_House_ties) l41 c41 k41, ⟨m41, i41, k41⟩⟩
  have D_House_ties := fun ns : List Int => ok_House_ties (Pg := l.prog) (base := base) (ns := ns) T r41
  have D_BadRun := fun _ : List Int => ok_BadRun (Pg := l.prog) (w := w) (base := base) ⟨⟨_, _, _, lE2⟩, ⟨_, _, _, _, _, _, rfl⟩, rfl, cdE2, ⟨_, _, _, _, _, _, coE2_, fvE2_, fiE2⟩, ⟨_, _, _, ceE2⟩, suE2, anyE, FE.oex_mk oxE2 rvE2 saE2 y2_3 v2 keE2, wVE2, mrE2, msE, PySem.W.mg_none_of X G zsE⟩ hfE20 mE2 iE2 (Binds.all (fun us hl => match us, hl with | [_, _], _ => rfl)) (PySem.W.mg_of X G g2)
  have D__law_taken := fun ns : List Int => ok__law_taken (Pg := l.prog) (base := base) (ns := ns) T r1
  have D__law_marks := fun ns : List Int => ok__law_marks (Pg := l.prog) (base := base) (ns := ns) T r2 (D__law_taken ns)
  have D__law_things := fun ns : List Int => ok__law_things (Pg := l.prog) (base := base) (ns := ns) T r3 (D__law_taken ns) (D__law_marks ns)
  have D__law_tie := fun ns : List Int => ok__law_tie (Pg := l.prog) (base := base) (ns := ns) T r4 (D__law_taken ns)
  have D__law_ties := fun ns : List Int => ok__law_ties (Pg := l.prog) (base := base) (ns := ns) T r5 (D__law_taken ns) (D__law_tie ns)
  have D__law_keeps := fun ns : List Int => ok__law_keeps (Pg := l.prog) (base := base) (ns := ns) T r6
  have D__law_first := fun ns : List Int => ok__law_first (Pg := l.prog) (base := base) (ns := ns) T r7 (D__law_keeps ns)
  have D__law_kept := fun ns : List Int => ok__law_kept (Pg := l.prog) (base := base) (ns := ns) T r8 (D__law_first ns)
  have D__law_spot := fun ns : List Int => ok__law_spot (Pg := l.prog) (base := base) (ns := ns) T r9
  have D__law_hour_of := fun ns : List Int => ok__law_hour_of (Pg := l.prog) (base := base) (ns := ns) T r10 (D__law_spot ns)
  have D__law_hour := fun ns : List Int => ok__law_hour (Pg := l.prog) (base := base) (ns := ns) T r11 (D__law_kept ns) (D__law_hour_of ns) (D__law_taken ns)
  have D__law_rows := fun ns : List Int => ok__law_rows (Pg := l.prog) (base := base) (ns := ns) T r12 (D__law_taken ns) (D__law_hour ns)
  have D__law_run := fun ns : List Int => ok__law_run (Pg := l.prog) (base := base) (ns := ns) T r13 (D__law_taken ns) (D__law_rows ns)
  have D__law_passed := fun ns : List Int => ok__law_passed (Pg := l.prog) (base := base) (ns := ns) T r14 (D__law_hour_of ns)
  have D_check_run := fun ns : List Int => ok_check_run (Pg := l.prog) (base := base) (ns := ns) (fx := (fun n => match n with | 0 => C0 | 2 => C2 | 3 => C3 | _ => C1)) T r15 (D_BadRun ns) (D_House_things ns)
  have D_parts_of_hour := fun ns : List Int => ok_parts_of_hour (Pg := l.prog) (base := base) (ns := ns) T r16
  have D_mark_place := fun ns : List Int => ok_mark_place (Pg := l.prog) (base := base) (ns := ns) T r17
  have D_place_of := fun ns : List Int => ok_place_of (Pg := l.prog) (base := base) (ns := ns) T r18 (D_mark_place ns)
  have D_is_mark := fun ns : List Int => ok_is_mark (Pg := l.prog) (base := base) (ns := ns) T r19
  have D_state_behind := fun ns : List Int => ok_state_behind (Pg := l.prog) (base := base) (ns := ns) T r20 (D_is_mark ns) (D_place_of ns)
  have D_sign := fun ns : List Int => ok_sign (Pg := l.prog) (base := base) (ns := ns) T r21
  have D_room_behind := fun ns : List Int => ok_room_behind (Pg := l.prog) (base := base) (ns := ns) T r22 (D_state_behind ns) (D_sign ns)
  have D_rooms_of_hour := fun ns : List Int => ok_rooms_of_hour (Pg := l.prog) (base := base) (ns := ns) T r23 (D_room_behind ns) (D_parts_of_hour ns)
  have D_passed := fun ns : List Int => ok_passed (Pg := l.prog) (base := base) (ns := ns) (fx := (fun n => match n with | 0 => C0 | 2 => C2 | 3 => C3 | _ => C1)) T r24 (D_rooms_of_hour ns) (D_House_things ns) (D_check_run ns)
  have D_passed_L := fun ns : List Int => ok_passed_L (Pg := l.prog) (base := base) (ns := ns) (fx := (fun n => match n with | 0 => C0 | 2 => C2 | 3 => C3 | _ => C1)) T r24 (D_rooms_of_hour ns) (D_House_things ns) (D_check_run ns)
  have D_may_be_sum := fun ns : List Int => ok_may_be_sum (Pg := l.prog) (base := base) (ns := ns) T r25 (D_sign ns)
  have D_keeps := fun ns : List Int => ok_keeps (Pg := l.prog) (base := base) (ns := ns) T r26 (D_may_be_sum ns) (D_sign ns) (D_mark_place ns)
  have D_first_broken := fun ns : List Int => ok_first_broken (Pg := l.prog) (base := base) (ns := ns) T r27 (D_keeps ns)
  have D_kept := fun ns : List Int => ok_kept (Pg := l.prog) (base := base) (ns := ns) (fx := (fun n => match n with | 0 => C0 | 2 => C2 | 3 => C3 | _ => C1)) T r28 (D_passed ns) (D_first_broken ns) (D_House_ties ns)
  have D__law_none := fun ns : List Int => ok__law_none (Pg := l.prog) (base := base) (ns := ns) T r29 (D__law_taken ns)
  have D__law_alike := fun ns : List Int => ok__law_alike (Pg := l.prog) (base := base) (ns := ns) T r30
  have D__law_refused := fun ns : List Int => ok__law_refused (Pg := l.prog) (base := base) (ns := ns) (fx := (fun n => match n with | 0 => C0 | 2 => C2 | 3 => C3 | _ => C1)) T r31 TX (D_passed ns) (D_kept ns)
  have D_is_name := fun ns : List Int => ok_is_name (Pg := l.prog) (base := base) (ns := ns) T r32
  have D_are_marks := fun ns : List Int => ok_are_marks (Pg := l.prog) (base := base) (ns := ns) T r33
  have D_check_things := fun ns : List Int => ok_check_things (Pg := l.prog) (base := base) (ns := ns) T r34 (D_is_name ns) (D_are_marks ns)
  have D_is_number_below := fun ns : List Int => ok_is_number_below (Pg := l.prog) (base := base) (ns := ns) T r35
  have D_is_tie := fun ns : List Int => ok_is_tie (Pg := l.prog) (base := base) (ns := ns) T r36 (D_is_number_below ns)
  have D_check_ties := fun ns : List Int => ok_check_ties (Pg := l.prog) (base := base) (ns := ns) T r37 (D_is_tie ns)
  have D_House := fun ns : List Int => ok_House (Pg := l.prog) (base := base) (ns := ns) T ⟨_, _, fun_mk (st := s_House_init) l39 c39 k39, ⟨mk, m39, i39, kc⟩, PySem.W.mg_of X G aC⟩ (D_check_things ns) (D_check_ties ns)
  exact ok_law (fx := (fun n => match n with | 0 => C0 | 2 => C2 | 3 => C3 | _ => C1)) T (fun_mk (st := s_law) l38 c38 k38) D__law_alike D_passed_L D_kept D__law_refused D__law_none D__law_kept D__law_passed D__law_run D_House D__law_ties D__law_things
end Law
/-! The law's mathematics: data with types, what each def tells of it. -/
namespace Law
open PySem L2 FL
/-! ### encodings -/
abbrev Spot := Int × Int
def spD (s : Spot) : PyData := .tuple [.int s.1, .int s.2]
abbrev Room3 := List Spot
def rmD (r : List Spot) : PyData := .tuple (r.map spD)
abbrev Thing := Str × List Int
def mkD (ms : List Int) : PyData := .tuple (ms.map .int)
def thD (t : Thing) : PyData := .tuple [.str t.1, mkD t.2]
def thsD (ts : List Thing) : PyData := .list (ts.map thD)
inductive Tie where
  | rate (i j m : Nat)
  | edge (o : Bool) (i m : Nat)
  | two (a : Bool) (i j : Nat)
  | three (p : Bool) (i j k : Nat)
def tieD : Tie → PyData
  | .rate i j m => .tuple [.str (Str.ofString "rate"), .int i, .int j, .int m]
  | .edge o i m => .tuple [.str (if o then Str.ofString "over" else Str.ofString "under"), .int i, .int m]
  | .two a i j => .tuple [.str (if a then Str.ofString "against" else Str.ofString "with"), .int i, .int j]
  | .three p i j k => .tuple [.str (if p then Str.ofString "product" else Str.ofString "sum"), .int i, .int j, .int k]
def tisD (ts : List Tie) : PyData := .list (ts.map tieD)
/-! ### texts -/
theorem ofString_inj {a b : String} : (Str.ofString a = Str.ofString b) ↔ a.toList = b.toList := by
  rw [Str.ofString_eq_toList, Str.ofString_eq_toList]
  constructor
  · intro h
    injection h with h
    have h2 : a.toList.map Char.toNat = b.toList.map Char.toNat := by simpa using h
    have inj : ∀ x y : Char, x.toNat = y.toNat → x = y := fun x y e => Char.ext (UInt32.toNat_inj.mp e)
    exact (List.map_inj_right inj).mp h2
  · intro h
    rw [h]
/-- two literal texts: equal? -/
theorem eq_str (a b : Str) : eqO (.str a) (.str b) = some (decide (a = b)) := by
  unfold eqO
  simp only [dV]
  by_cases h : a = b
  · subst h; simp [scal]
  · simp [scal, h]
theorem eq_int (a b : Int) : eqO (.int a) (.int b) = some (decide (a = b)) := by
  unfold eqO
  simp [dV, scal]
theorem dec_lit (a b : String) : decide (Str.ofString a = Str.ofString b) = decide (a.toList = b.toList) := decide_eq_decide.mpr ofString_inj
/-! ### places -/
theorem atI_nat {α : Type} {xs : List α} {i : Nat} {x : α} (h : xs[i]? = some x) : atI xs (i : Int) = some x := by
  have hl := (List.getElem?_eq_some_iff.mp h).1
  unfold atI ixN
  rw [if_pos (by omega), if_pos (by omega)]
  show xs[(i : Int).toNat]? = _
  rw [Int.toNat_natCast]
  exact h
theorem atI_last {α : Type} {xs : List α} {x : α} (h : xs.getLast? = some x) : atI xs (-1) = some x := by
  have hne : xs ≠ [] := fun z => by rw [z] at h; cases h
  have hl : 0 < xs.length := List.length_pos_iff.mpr hne
  unfold atI ixN
  rw [if_neg (by omega), if_pos (by omega)]
  show xs[(-1 + (xs.length : Int)).toNat]? = _
  rw [List.getLast?_eq_getElem?] at h
  have e : (-1 + (xs.length : Int)).toNat = xs.length - 1 := by omega
  rw [e]
  exact h
theorem atI_0 {α : Type} (x : α) (xs : List α) : atI (x :: xs) 0 = some x := atI_nat (i := 0) rfl
theorem atI_1 {α : Type} (x y : α) (xs : List α) : atI (x :: y :: xs) 1 = some y := atI_nat (i := 1) rfl
theorem atI_2 {α : Type} (x y z : α) (xs : List α) : atI (x :: y :: z :: xs) 2 = some z := atI_nat (i := 2) rfl
theorem atI_3 {α : Type} (x y z u : α) (xs : List α) : atI (x :: y :: z :: u :: xs) 3 = some u := atI_nat (i := 3) rfl
theorem atI_mapD {α : Type} (f : α → PyData) {xs : List α} {i : Nat} {x : α} (h : xs[i]? = some x) : atI (xs.map f) (i : Int) = some (f x) := atI_nat (by rw [List.getElem?_map, h]; rfl)
/-! ### comprehensions and loops over typed lists -/
theorem lcGo_map {α : Type} {g : PyData → List Sl → Option (List Sl)} {tt : Mx Bool} {te : Mx Vl} {ss : List Sl} {rw : Ro} (enc f : α → PyData) (p : α → Bool) : ∀ (ys : List α), (∀ y ∈ ys, ∃ ss1, g (enc y) ss = some ss1 ∧ tt ss1 rw = some (p y, rw) ∧ (p y = true → te ss1 rw = some (.dat (f y), rw))) →
    lcGo g tt te ss (ys.map enc) rw = some ((ys.filter p).map f, rw)
  | [], _ => rfl
  | y :: ys, h => by
    obtain ⟨ss1, h1, h2, h3⟩ := h y List.mem_cons_self
    have ih := lcGo_map (g := g) (tt := tt) (te := te) (ss := ss) (rw := rw) enc f p ys fun z hz => h z (List.mem_cons_of_mem _ hz)
    rw [List.map_cons]
    unfold lcGo
    rw [h1]
    show (match tt ss1 rw with | none => none | some (true, rw1) => _ | some (false, rw1) => _) = _
    rw [h2]
    cases hp : p y with
    | true =>
      show (match te ss1 rw with | some (.dat y, rw2) => _ | _ => none) = _
      rw [h3 hp]
      show (match lcGo g tt te ss (ys.map enc) rw with | some (zs, rw3) => some (f y :: zs, rw3) | none => none) = _
      rw [ih, List.filter_cons_of_pos hp]
      rfl
    | false =>
      show lcGo g tt te ss (ys.map enc) rw = _
      rw [ih, List.filter_cons_of_neg (by rw [hp]; simp)]
theorem rgD_map (n : Nat) : rgD 0 n = (List.range n).map fun i => PyData.int (i : Nat) := by
  unfold rgD
  simp
/-- a loop that goes on -/
theorem forGo_step {g : PyData → List Sl → Option (List Sl)} {b : Sx} {x : PyData} {xs : List PyData} {ss ss1 ss2 : List Sl} {rw rw2 : Ro} (h1 : g x ss = some ss1) (h2 : b ss1 rw = some (.nx ss2 rw2)) : forGo g b (x :: xs) ss rw = forGo g b xs ss2 rw2 := by
  show (match g x ss with | none => none | some ss1 => _) = _
  rw [h1]
  show (match b ss1 rw with | some (.nx ss2 rw2) => forGo g b xs ss2 rw2 | some (.ct ss2 rw2) => forGo g b xs ss2 rw2 | some (.bk ss2 rw2) => some (.nx ss2 rw2) | o => o) = _
  rw [h2]
/-- a loop that ends by return -/
theorem forGo_ret {g : PyData → List Sl → Option (List Sl)} {b : Sx} {x : PyData} {xs : List PyData} {ss ss1 : List Sl} {rw rw2 : Ro} {v : Vl} (h1 : g x ss = some ss1) (h2 : b ss1 rw = some (.rt v rw2)) : forGo g b (x :: xs) ss rw = some (.rt v rw2) := by
  show (match g x ss with | none => none | some ss1 => _) = _
  rw [h1]
  show (match b ss1 rw with | some (.nx ss2 rw2) => forGo g b xs ss2 rw2 | some (.ct ss2 rw2) => forGo g b xs ss2 rw2 | some (.bk ss2 rw2) => some (.nx ss2 rw2) | o => o) = _
  rw [h2]
theorem forGo_er {g : PyData → List Sl → Option (List Sl)} {b : Sx} {x : PyData} {xs : List PyData} {ss ss1 ss2 : List Sl} {rw rw2 : Ro} {v : Exn} (h1 : g x ss = some ss1) (h2 : b ss1 rw = some (.er v ss2 rw2)) : forGo g b (x :: xs) ss rw = some (.er v ss2 rw2) := by
  show (match g x ss with | none => none | some ss1 => _) = _
  rw [h1]
  show (match b ss1 rw with | some (.nx ss2 rw2) => forGo g b xs ss2 rw2 | some (.ct ss2 rw2) => forGo g b xs ss2 rw2 | some (.bk ss2 rw2) => some (.nx ss2 rw2) | o => o) = _
  rw [h2]
/-! ### bodies -/
theorem bodyP_rt {n k : Nat} {m : Sx} {xs : List Vl} {v : Vl} {rw : Ro} (hl : xs.length = k) (h : m (slots n xs) (0, 0) = some (.rt v rw)) : bodyP n k m xs = some v := by
  unfold bodyP
  rw [if_pos hl, h]
theorem bodyP_nx {n k : Nat} {m : Sx} {xs : List Vl} {ss : List Sl} {rw : Ro} (hl : xs.length = k) (h : m (slots n xs) (0, 0) = some (.nx ss rw)) : bodyP n k m xs = some (.dat .none) := by
  unfold bodyP
  rw [if_pos hl, h]
theorem bodyP_rl {n k : Nat} {m : Sx} {xs : List Vl} {ds : List PyData} {rw : Ro} (hl : xs.length = k) (h : m (slots n xs) (0, 0) = some (.rl ds rw)) : bodyP n k m xs = some (.dat (.list ds)) := by
  unfold bodyP
  rw [if_pos hl, h]
theorem bodyL_rl {n k : Nat} {m : Sx} {xs : List Vl} {ds : List PyData} {rw : Ro} (hl : xs.length = k) (h : m (slots n xs) (0, 0) = some (.rl ds rw)) : bodyL n k m xs = some ds := by
  unfold bodyL
  rw [if_pos hl, h]
theorem bodyR_rt {n k : Nat} {m : Sx} {xs : List Vl} {v : Vl} {r0 rw : Ro} (hl : xs.length = k) (h : m (slotsR n xs) r0 = some (.rt v rw)) : bodyR n k m xs r0 = some (v, rw) := by
  unfold bodyR
  rw [if_pos hl, h]
theorem bodyR_rl {n k : Nat} {m : Sx} {xs : List Vl} {ds : List PyData} {r0 rw : Ro} (hl : xs.length = k) (h : m (slotsR n xs) r0 = some (.rl ds rw)) : bodyR n k m xs r0 = some (.dat (.list ds), rw) := by
  unfold bodyR
  rw [if_pos hl, h]
theorem bodyX_rt {n k : Nat} {m : Sx} {xs : List Vl} {v : Vl} {rw : Ro} (hl : xs.length = k) (h : m (slots n xs) (0, 0) = some (.rt v rw)) : bodyX n k m xs = some (.ok v) := by
  unfold bodyX
  rw [if_pos hl, h]
theorem bodyX_nx {n k : Nat} {m : Sx} {xs : List Vl} {ss : List Sl} {rw : Ro} (hl : xs.length = k) (h : m (slots n xs) (0, 0) = some (.nx ss rw)) : bodyX n k m xs = some (.ok (.dat .none)) := by
  unfold bodyX
  rw [if_pos hl, h]
theorem bodyX_er {n k : Nat} {m : Sx} {xs : List Vl} {e : Exn} {ss : List Sl} {rw : Ro} (hl : xs.length = k) (h : m (slots n xs) (0, 0) = some (.er e ss rw)) : bodyX n k m xs = some (.er e) := by
  unfold bodyX
  rw [if_pos hl, h]
theorem seq_nx {a b : Sx} {ss ss1 : List Sl} {rw rw1 : Ro} (h : a ss rw = some (.nx ss1 rw1)) : sSeq a b ss rw = b ss1 rw1 := by
  unfold sSeq
  rw [h]
theorem seq_rt {a b : Sx} {ss : List Sl} {rw rw1 : Ro} {v : Vl} (h : a ss rw = some (.rt v rw1)) : sSeq a b ss rw = some (.rt v rw1) := by
  unfold sSeq
  rw [h]
theorem seq_er {a b : Sx} {ss ss1 : List Sl} {rw rw1 : Ro} {v : Exn} (h : a ss rw = some (.er v ss1 rw1)) : sSeq a b ss rw = some (.er v ss1 rw1) := by
  unfold sSeq
  rw [h]
theorem for_eq {mi : Mx (List PyData)} {g : PyData → List Sl → Option (List Sl)} {b : Sx} {ss : List Sl} {xs : List PyData} {rw rw1 : Ro} (h : mi ss rw = some (xs, rw1)) : sFor mi g b ss rw = forGo g b xs ss rw1 := by
  unfold sFor
  rw [h]
theorem lc_eq {vs : List Nat} {mi : Mx (List PyData)} {g : PyData → List Sl → Option (List Sl)} {tt : Mx Bool} {te : Mx Vl} {ss : List Sl} {rw rw1 : Ro} {xs : List PyData} (h0 : noOwn ss vs = true) (h1 : mi ss rw = some (xs, rw1)) (h2 : xs.length ≤ 100000) : mLc vs mi g tt te ss rw = lcGo g tt te (wipeS ss vs) xs rw1 := by
  unfold mLc
  rw [if_pos h0, h1]
  simp only []
  rw [if_pos h2]
theorem lcGo2_cons {g g1 : PyData → List Sl → Option (List Sl)} {mi1 : Mx (List PyData)} {vs1 : List Nat} {tt1 : Mx Bool} {te : Mx Vl} {ss ss1 : List Sl} {x : PyData} {xs us ys zs : List PyData} {n : Nat} {rw rw1 rw2 rw3 : Ro} (h1 : g x ss = some ss1) (h2 : noOwn ss1 vs1 = true) (h3 : mi1 ss1 rw = some (us, rw1)) (h4 : us.length ≤ n)
    (h5 : lcGo g1 tt1 te (wipeS ss1 vs1) us rw1 = some (ys, rw2)) (h6 : lcGo2 g mi1 vs1 g1 tt1 te ss xs (n - us.length) rw2 = some (zs, rw3)) : lcGo2 g mi1 vs1 g1 tt1 te ss (x :: xs) n rw = some (ys ++ zs, rw3) := by
  unfold lcGo2
  rw [h1]
  simp only []
  rw [if_pos h2, h3]
  simp only []
  rw [if_pos h4, h5]
  simp only []
  rw [h6]
theorem call_eq {F : List Vl → Option Vl} {ma : Mx (List Vl)} {ss : List Sl} {rw rw1 : Ro} {xs : List Vl} {x : Vl} (h1 : ma ss rw = some (xs, rw1)) (h2 : F xs = some x) : mCall F ma ss rw = some (x, rw1) := by
  unfold mCall bnd opt
  rw [h1]
  simp only []
  rw [h2]
theorem callL_eq {F : List Vl → Option (List PyData)} {ma : Mx (List Vl)} {ss : List Sl} {rw rw1 : Ro} {xs : List Vl} {x : List PyData} (h1 : ma ss rw = some (xs, rw1)) (h2 : F xs = some x) : mCallL F ma ss rw = some (x, rw1) := by
  unfold mCallL bnd opt
  rw [h1]
  simp only []
  rw [h2]
theorem callX_eq {F : List Vl → Option Res} {ma : Mx (List Vl)} {ss : List Sl} {rw rw1 : Ro} {xs : List Vl} {x : Res} (h1 : ma ss rw = some (xs, rw1)) (h2 : F xs = some x) : mCallX F ma ss rw = some (x, rw1) := by
  unfold mCallX bnd opt
  rw [h1]
  simp only []
  rw [h2]
theorem callR_eq {F : List Vl → Ro → Option (Vl × Ro)} {ma : Mx (List Vl)} {i : Nat} {ss : List Sl} {rw rw1 rw2 : Ro} {xs : List Vl} {x : Vl} (h0 : ss[i]? = some .row) (h1 : ma ss rw = some (xs, rw1)) (h2 : F xs rw1 = some (x, rw2)) : mCallR i F ma ss rw = some (x, rw2) := by
  unfold mCallR
  rw [h0]
  simp only []
  rw [h1]
  simp only []
  rw [h2]
theorem seq_eq {m : Mx Vl} {ss : List Sl} {rw rw1 : Ro} {x : Vl} {ds : List PyData} (h1 : m ss rw = some (x, rw1)) (h2 : seqD x = some ds) : mSeq m ss rw = some (ds, rw1) := by
  unfold mSeq bnd opt
  rw [h1]
  simp only []
  rw [h2]
theorem m1_eq {g : Vl → Option Vl} {m : Mx Vl} {ss : List Sl} {rw rw1 : Ro} {x y : Vl} (h1 : m ss rw = some (x, rw1)) (h2 : g x = some y) : m1 g m ss rw = some (y, rw1) := by
  unfold m1 bnd opt
  rw [h1]
  simp only []
  rw [h2]
theorem m2_eq {g : Vl → Vl → Option Vl} {m n : Mx Vl} {ss : List Sl} {rw rw1 rw2 : Ro} {x y z : Vl} (h1 : m ss rw = some (x, rw1)) (h2 : n ss rw1 = some (y, rw2)) (h3 : g x y = some z) : m2 g m n ss rw = some (z, rw2) := by
  unfold m2 bnd opt
  rw [h1]
  simp only []
  rw [h2]
  simp only []
  rw [h3]
theorem tst_eq {m : Mx Vl} {ss : List Sl} {rw rw1 : Ro} {b : Bool} (h1 : m ss rw = some (.dat (.bool b), rw1)) : mTst m ss rw = some (b, rw1) := by
  unfold mTst bnd opt
  rw [h1]
theorem not_eq {m : Mx Bool} {ss : List Sl} {rw rw1 : Ro} {b : Bool} (h1 : m ss rw = some (b, rw1)) : mNot m ss rw = some (!b, rw1) := by
  unfold mNot bnd pur
  rw [h1]
theorem cons_eq {m : Mx Vl} {ms : Mx (List Vl)} {ss : List Sl} {rw rw1 rw2 : Ro} {x : Vl} {xs : List Vl} (h1 : m ss rw = some (x, rw1)) (h2 : ms ss rw1 = some (xs, rw2)) : mCons m ms ss rw = some (x :: xs, rw2) := by
  unfold mCons bnd pur
  rw [h1]
  simp only []
  rw [h2]
theorem set_eq {i : Nat} {m : Mx Vl} {ss : List Sl} {rw rw1 : Ro} {x : Vl} (h1 : m ss rw = some (x, rw1)) (h2 : i < ss.length) : sSet i m ss rw = some (.nx (ss.set i (.vl x)) rw1) := by
  unfold sSet putS
  rw [h1]
  simp only []
  rw [if_pos h2]
theorem own_eq {i : Nat} {m : Mx (List PyData)} {ss : List Sl} {rw rw1 : Ro} {x : List PyData} (h1 : m ss rw = some (x, rw1)) (h2 : i < ss.length) : sOwn i m ss rw = some (.nx (ss.set i (.own x)) rw1) := by
  unfold sOwn putS
  rw [h1]
  simp only []
  rw [if_pos h2]
theorem list_eq {m : Mx (List PyData)} {ss : List Sl} {rw rw1 : Ro} {x : List PyData} (h1 : m ss rw = some (x, rw1)) : mList m ss rw = some (.dat (.list x), rw1) := by
  unfold mList bnd pur
  rw [h1]
theorem ret_eq {m : Mx Vl} {ss : List Sl} {rw rw1 : Ro} {x : Vl} (h1 : m ss rw = some (x, rw1)) : sRet m ss rw = some (.rt x rw1) := by
  unfold sRet
  rw [h1]
theorem retL_eq {m : Mx (List PyData)} {ss : List Sl} {rw rw1 : Ro} {x : List PyData} (h1 : m ss rw = some (x, rw1)) : sRetL m ss rw = some (.rl x rw1) := by
  unfold sRetL
  rw [h1]
theorem ifT {c : Mx Bool} {a b : Sx} {ss : List Sl} {rw rw1 : Ro} (h1 : c ss rw = some (true, rw1)) : sIf c a b ss rw = a ss rw1 := by
  unfold sIf
  rw [h1]
theorem ifF {c : Mx Bool} {a b : Sx} {ss : List Sl} {rw rw1 : Ro} (h1 : c ss rw = some (false, rw1)) : sIf c a b ss rw = b ss rw1 := by
  unfold sIf
  rw [h1]
theorem ext_eq {i : Nat} {m : Mx Vl} {ss : List Sl} {rw rw1 : Ro} {ds es : List PyData} (h0 : ss[i]? = some (.own ds)) (h1 : m ss rw = some (.dat (.list es), rw1)) (h2 : ds.length + es.length ≤ 100000) : sExt i m ss rw = some (.nx (ss.set i (.own (ds ++ es))) rw1) := by
  unfold sExt
  rw [h0]
  simp only []
  rw [h1]
  simp only []
  rw [if_pos h2]
theorem app_eq {i : Nat} {m : Mx Vl} {ss : List Sl} {rw rw1 : Ro} {ds : List PyData} {d : PyData} (h0 : ss[i]? = some (.own ds)) (h1 : m ss rw = some (.dat d, rw1)) (h2 : ds.length < 100000) : sApp i m ss rw = some (.nx (ss.set i (.own (ds ++ [d]))) rw1) := by
  unfold sApp
  rw [h0]
  simp only []
  rw [h1]
  simp only []
  rw [if_pos h2]
/-! ### small defs -/
def sgn (n : Int) : Int := if 0 < n then 1 else if n < 0 then -1 else 0
theorem sign_val (n : Int) : F_sign [.dat (.int n)] = some (.dat (.int (sgn n))) := by
  unfold F_sign m_sign sgn
  by_cases h1 : 0 < n <;> by_cases h2 : n < 0 <;> simp [bodyP, bodyL, bodyR, bodyX, bodyT, slots, slotsR, ssT, sSeq, sIf, sNx, sRet, sRetL, sRetO, sRetX, sSet, sSetX, sOwn, sApp, sExt, sClr, sDrop, sDropX, sTgt, sFor, sFrz, frz, sRow, sTry, sRaise, noAt, noRow, mBor, mTst, mAnd, mOr, mNot, mIf, mAndV, mOrV, mNotV, mChain, m1, m2, bnd, opt, pur, mVar, mC, mCons, mNil, mTup, mLst, mList, mCall, mCallL, mCallX, mCallR, mOk, mHse, mMake, mSl, mSome, mNone, mSeq, mEn, mRg1, mRg2, mZ3, mLc, mLc2, mYes, mIxV, mInO, mRow1, mRow2, mRowLen, mRowAt, dats, putS, gNm, gTp, gsCons, gsNil, seqD, addD, subD, subI, mulD, fdivD, fdivI, modD, modI, negD, i2, ltD, ltI, leD, leI, gtD, gtI, geD, geI, eqD, neD, isND, notND, inD, ninD, ixD, slD, lenD, tupleD, listD, intD, lstD, isiD, isi2D, tyN, isTy, noOwn, wipeS, h1, h2]
theorem mark_val (n : Int) : F_mark_place [.dat (.int n)] = some (.dat (.int (2 * n + 1))) := by
  simp [F_mark_place, m_mark_place, bodyP, bodyL, bodyR, bodyX, bodyT, slots, slotsR, ssT, sSeq, sIf, sNx, sRet, sRetL, sRetO, sRetX, sSet, sSetX, sOwn, sApp, sExt, sClr, sDrop, sDropX, sTgt, sFor, sFrz, frz, sRow, sTry, sRaise, noAt, noRow, mBor, mTst, mAnd, mOr, mNot, mIf, mAndV, mOrV, mNotV, mChain, m1, m2, bnd, opt, pur, mVar, mC, mCons, mNil, mTup, mLst, mList, mCall, mCallL, mCallX, mCallR, mOk, mHse, mMake, mSl, mSome, mNone, mSeq, mEn, mRg1, mRg2, mZ3, mLc, mLc2, mYes, mIxV, mInO, mRow1, mRow2, mRowLen, mRowAt, dats, putS, gNm, gTp, gsCons, gsNil, seqD, addD, subD, subI, mulD, fdivD, fdivI, modD, modI, negD, i2, ltD, ltI, leD, leI, gtD, gtI, geD, geI, eqD, neD, isND, notND, inD, ninD, ixD, slD, lenD, tupleD, listD, intD, lstD, isiD, isi2D, tyN, isTy, noOwn, wipeS]
/-- the i-th thing's place and trend -/
def sp (r : List Spot) (i : Nat) : Spot := r.getD i (0, 0)
/-- the ties a room keeps, as the program reckons -/
def keepB (r : List Spot) : Tie → Bool
  | .rate i j m => decide ((sp r i).2 = sgn ((sp r j).1 - (2 * m + 1)))
  | .edge o i m => if o then decide (2 * (m : Int) + 1 ≤ (sp r i).1) else decide ((sp r i).1 ≤ 2 * m + 1)
  | .two a i j => decide ((sp r i).2 = if a then -(sp r j).2 else (sp r j).2)
  | .three p i j k => if p then decide ((sp r i).2 = (sp r j).2 * (sp r k).2) else
      if (sp r j).2 * (sp r k).2 = -1 then true else decide ((sp r i).2 = sgn ((sp r j).2 + (sp r k).2))
def Trend (t : Int) : Prop := t = -1 ∨ t = 0 ∨ t = 1
def RoomOk (n : Nat) (r : List Spot) : Prop := r.length = n ∧ ∀ s ∈ r, Trend s.2
/-- the ties of a house of things with so many marks each -/
def TieOk (ts : List Thing) : Tie → Prop
  | .rate i j m => i < ts.length ∧ ∃ t, ts[j]? = some t ∧ m < t.2.length
  | .edge _ i m => ∃ t, ts[i]? = some t ∧ m < t.2.length
  | .two _ i j => i < ts.length ∧ j < ts.length ∧ i ≠ j
  | .three _ i j k => i < ts.length ∧ j < ts.length ∧ k < ts.length ∧ i ≠ j ∧ i ≠ k
theorem room_at {r : List Spot} {i : Nat} (h : i < r.length) : r[i]? = some (sp r i) := by
  unfold sp
  rw [List.getElem?_eq_getElem h, List.getD_eq_getElem?_getD, List.getElem?_eq_getElem h]
  rfl
theorem trend_at {n : Nat} {r : List Spot} {i : Nat} (h : RoomOk n r) (hi : i < n) : Trend (sp r i).2 := by
  have := room_at (r := r) (i := i) (by rw [h.1]; exact hi)
  exact h.2 _ (List.mem_of_getElem? this)
theorem small_of {t : Int} (h : Trend t) : t.natAbs < 2 ^ 64 := by
  rcases h with h | h | h <;> subst h <;> decide
theorem may_val {a b c : Int} (hb : Trend b) : F_may_be_sum [.dat (.int a), .dat (.int b), .dat (.int c)] = some (.dat (.bool (if b * c = -1 then true else decide (a = sgn (b + c))))) := by
  have hs := small_of hb
  by_cases h : b * c = -1 <;> simp [F_may_be_sum, m_may_be_sum, bodyP, bodyL, bodyR, bodyX, bodyT, slots, slotsR, ssT, sSeq, sIf, sNx, sRet, sRetL, sRetO, sRetX, sSet, sSetX, sOwn, sApp, sExt, sClr, sDrop, sDropX, sTgt, sFor, sFrz, frz, sRow, sTry, sRaise, noAt, noRow, mBor, mTst, mAnd, mOr, mNot, mIf, mAndV, mOrV, mNotV, mChain, m1, m2, bnd, opt, pur, mVar, mC, mCons, mNil, mTup, mLst, mList, mCall, mCallL, mCallX, mCallR, mOk, mHse, mMake, mSl, mSome, mNone, mSeq, mEn, mRg1, mRg2, mZ3, mLc, mLc2, mYes, mIxV, mInO, mRow1, mRow2, mRowLen, mRowAt, dats, putS, gNm, gTp, gsCons, gsNil, seqD, addD, subD, subI, mulD, fdivD, fdivI, modD, modI, negD, i2, ltD, ltI, leD, leI, gtD, gtI, geD, geI, eqD, neD, isND, notND, inD, ninD, ixD, slD, lenD, tupleD, listD, intD, lstD, isiD, isi2D, tyN, isTy, noOwn, wipeS, eq_int, hs, h, sign_val]
set_option maxHeartbeats 8000000 in
theorem keeps_val {ts : List Thing} {r : List Spot} (hr : RoomOk ts.length r) {t : Tie} (ht : TieOk ts t) : F_keeps [.dat (rmD r), .dat (tieD t)] = some (.dat (.bool (keepB r t))) := by
  cases t with
  | rate i j m =>
    obtain ⟨h1, t, h2, h3⟩ := ht
    have hj : j < ts.length := (List.getElem?_eq_some_iff.mp h2).1
    have ei := atI_mapD spD (room_at (r := r) (i := i) (by rw [hr.1]; exact h1))
    have ej := atI_mapD spD (room_at (r := r) (i := j) (by rw [hr.1]; exact hj))
    simp [F_keeps, m_keeps, bodyP, bodyL, bodyR, bodyX, bodyT, slots, slotsR, ssT, sSeq, sIf, sNx, sRet, sRetL, sRetO, sRetX, sSet, sSetX, sOwn, sApp, sExt, sClr, sDrop, sDropX, sTgt, sFor, sFrz, frz, sRow, sTry, sRaise, noAt, noRow, mBor, mTst, mAnd, mOr, mNot, mIf, mAndV, mOrV, mNotV, mChain, m1, m2, bnd, opt, pur, mVar, mC, mCons, mNil, mTup, mLst, mList, mCall, mCallL, mCallX, mCallR, mOk, mHse, mMake, mSl, mSome, mNone, mSeq, mEn, mRg1, mRg2, mZ3, mLc, mLc2, mYes, mIxV, mInO, mRow1, mRow2, mRowLen, mRowAt, dats, putS, gNm, gTp, gsCons, gsNil, seqD, addD, subD, subI, mulD, fdivD, fdivI, modD, modI, negD, i2, ltD, ltI, leD, leI, gtD, gtI, geD, geI, eqD, neD, isND, notND, inD, ninD, ixD, slD, lenD, tupleD, listD, intD, lstD, isiD, isi2D, tyN, isTy, noOwn, wipeS, rmD, tieD, atI_0, atI_1, atI_2, atI_3, ei, ej, spD, eq_str, eq_int, dec_lit, mark_val, sign_val, keepB]
  | edge o i m =>
    obtain ⟨t, h2, h3⟩ := ht
    have hi : i < ts.length := (List.getElem?_eq_some_iff.mp h2).1
    have ei := atI_mapD spD (room_at (r := r) (i := i) (by rw [hr.1]; exact hi))
    cases o <;> simp [F_keeps, m_keeps, bodyP, bodyL, bodyR, bodyX, bodyT, slots, slotsR, ssT, sSeq, sIf, sNx, sRet, sRetL, sRetO, sRetX, sSet, sSetX, sOwn, sApp, sExt, sClr, sDrop, sDropX, sTgt, sFor, sFrz, frz, sRow, sTry, sRaise, noAt, noRow, mBor, mTst, mAnd, mOr, mNot, mIf, mAndV, mOrV, mNotV, mChain, m1, m2, bnd, opt, pur, mVar, mC, mCons, mNil, mTup, mLst, mList, mCall, mCallL, mCallX, mCallR, mOk, mHse, mMake, mSl, mSome, mNone, mSeq, mEn, mRg1, mRg2, mZ3, mLc, mLc2, mYes, mIxV, mInO, mRow1, mRow2, mRowLen, mRowAt, dats, putS, gNm, gTp, gsCons, gsNil, seqD, addD, subD, subI, mulD, fdivD, fdivI, modD, modI, negD, i2, ltD, ltI, leD, leI, gtD, gtI, geD, geI, eqD, neD, isND, notND, inD, ninD, ixD, slD, lenD, tupleD, listD, intD, lstD, isiD, isi2D, tyN, isTy, noOwn, wipeS, rmD, tieD, atI_0, atI_1, atI_2, atI_3, ei, spD, eq_str, eq_int, dec_lit, mark_val, sign_val, keepB]
  | two a i j =>
    obtain ⟨h1, h2, h3⟩ := ht
    have ei := atI_mapD spD (room_at (r := r) (i := i) (by rw [hr.1]; exact h1))
    have ej := atI_mapD spD (room_at (r := r) (i := j) (by rw [hr.1]; exact h2))
    cases a <;> simp [F_keeps, m_keeps, bodyP, bodyL, bodyR, bodyX, bodyT, slots, slotsR, ssT, sSeq, sIf, sNx, sRet, sRetL, sRetO, sRetX, sSet, sSetX, sOwn, sApp, sExt, sClr, sDrop, sDropX, sTgt, sFor, sFrz, frz, sRow, sTry, sRaise, noAt, noRow, mBor, mTst, mAnd, mOr, mNot, mIf, mAndV, mOrV, mNotV, mChain, m1, m2, bnd, opt, pur, mVar, mC, mCons, mNil, mTup, mLst, mList, mCall, mCallL, mCallX, mCallR, mOk, mHse, mMake, mSl, mSome, mNone, mSeq, mEn, mRg1, mRg2, mZ3, mLc, mLc2, mYes, mIxV, mInO, mRow1, mRow2, mRowLen, mRowAt, dats, putS, gNm, gTp, gsCons, gsNil, seqD, addD, subD, subI, mulD, fdivD, fdivI, modD, modI, negD, i2, ltD, ltI, leD, leI, gtD, gtI, geD, geI, eqD, neD, isND, notND, inD, ninD, ixD, slD, lenD, tupleD, listD, intD, lstD, isiD, isi2D, tyN, isTy, noOwn, wipeS, rmD, tieD, atI_0, atI_1, atI_2, atI_3, ei, ej, spD, eq_str, eq_int, dec_lit, mark_val, sign_val, keepB]
  | three p i j k =>
    obtain ⟨h1, h2, h3, _⟩ := ht
    have ei := atI_mapD spD (room_at (r := r) (i := i) (by rw [hr.1]; exact h1))
    have ej := atI_mapD spD (room_at (r := r) (i := j) (by rw [hr.1]; exact h2))
    have ek := atI_mapD spD (room_at (r := r) (i := k) (by rw [hr.1]; exact h3))
    have tj := trend_at hr h2
    have sj := small_of tj
    cases p <;> simp [F_keeps, m_keeps, bodyP, bodyL, bodyR, bodyX, bodyT, slots, slotsR, ssT, sSeq, sIf, sNx, sRet, sRetL, sRetO, sRetX, sSet, sSetX, sOwn, sApp, sExt, sClr, sDrop, sDropX, sTgt, sFor, sFrz, frz, sRow, sTry, sRaise, noAt, noRow, mBor, mTst, mAnd, mOr, mNot, mIf, mAndV, mOrV, mNotV, mChain, m1, m2, bnd, opt, pur, mVar, mC, mCons, mNil, mTup, mLst, mList, mCall, mCallL, mCallX, mCallR, mOk, mHse, mMake, mSl, mSome, mNone, mSeq, mEn, mRg1, mRg2, mZ3, mLc, mLc2, mYes, mIxV, mInO, mRow1, mRow2, mRowLen, mRowAt, dats, putS, gNm, gTp, gsCons, gsNil, seqD, addD, subD, subI, mulD, fdivD, fdivI, modD, modI, negD, i2, ltD, ltI, leD, leI, gtD, gtI, geD, geI, eqD, neD, isND, notND, inD, ninD, ixD, slD, lenD, tupleD, listD, intD, lstD, isiD, isi2D, tyN, isTy, noOwn, wipeS, rmD, tieD, atI_0, atI_1, atI_2, atI_3, ei, ej, ek, spD, eq_str, eq_int, dec_lit, mark_val, sign_val, keepB, may_val tj, sj]
end Law
/-! The law's own reckoning of a tie; first broken; rooms. -/
namespace Law
open PySem L2 FL
theorem in_two (a x y : Str) : inO (.str a) (.tuple [.str x, .str y]) = some (decide (a = x) || decide (a = y)) := by
  unfold inO
  simp only [dV, dVs]
  show some (inV (.str a) [.str x, .str y]) = _
  have e : ∀ u v : Str, (u == v) = decide (v = u) := fun u v => by
    by_cases h : v = u
    · subst h; simp
    · simp [h, Ne.symm h]
  simp [inV, eqV, e]
theorem canLay_ints : ∀ xs : List Int, PyData.canLayAll0 (xs.map .int) = true
  | [] => rfl
  | x :: xs => by
    rw [List.map_cons]
    unfold PyData.canLayAll0
    rw [canLay_ints xs]
    rfl
theorem depth_ints : ∀ xs : List Int, PyData.depthAll (xs.map .int) = 0
  | [] => by simp [PyData.depthAll]
  | x :: xs => by
    rw [List.map_cons]
    unfold PyData.depthAll
    rw [depth_ints xs]
    simp [PyData.depth]
theorem shaped_ints (xs : List Int) : SeqAt.shaped (.list (xs.map .int)) = true := by
  unfold SeqAt.shaped PyData.canLay0 PyData.depth
  rw [canLay_ints, depth_ints]
  rfl
theorem eqO_ints (xs ys : List Int) : eqO (.list (xs.map .int)) (.list (ys.map .int)) = some (PyData.eqv (.list (xs.map .int)) (.list (ys.map .int))) := by
  unfold eqO
  simp only [dV]
  rw [if_pos ⟨shaped_ints xs, shaped_ints ys⟩]
theorem eqv_nil (xs : List Int) : PyData.eqv (.list (xs.map .int)) (.list []) = xs.isEmpty := by
  cases xs <;> simp [PyData.eqv, PyData.eqvAll]
theorem ne_nil (xs : List Int) : eqO (.list (xs.map .int)) (.list []) = some xs.isEmpty := by
  have h := eqO_ints xs []
  rw [List.map_nil, eqv_nil] at h
  exact h
theorem ne_nil0 : eqO (.list []) (.list []) = some true := ne_nil []
theorem ne_nil1 (x : Int) (xs : List Int) : eqO (.list (.int x :: xs.map .int)) (.list []) = some false := ne_nil (x :: xs)
theorem sgn_rate {t : Int} (h : Trend t) (f : Int) : (decide (0 < t * f) || (decide (t = 0) && decide (f = 0))) = decide (t = sgn f) := by
  unfold sgn
  rcases h with rfl | rfl | rfl
  · by_cases h1 : 0 < f
    · have : ¬ (0 < -1 * f) := by omega
      simp [h1, this] <;> omega
    · by_cases h2 : f < 0
      · have : 0 < -1 * f := by omega
        simp [h1, h2, this]
      · have : f = 0 := by omega
        subst this; simp
  · by_cases h1 : 0 < f
    · simp [h1] <;> omega
    · by_cases h2 : f < 0
      · simp [h1, h2] <;> omega
      · have : f = 0 := by omega
        subst this; simp
  · by_cases h1 : 0 < f
    · simp [h1]
    · by_cases h2 : f < 0
      · simp [h1, h2] <;> omega
      · have : f = 0 := by omega
        subst this; simp
theorem lkeeps_rate {ts : List Thing} {r : List Spot} (hr : RoomOk ts.length r) {i j m : Nat} (ht : TieOk ts (.rate i j m)) : F__law_keeps [.dat (tieD (.rate i j m)), .dat (rmD r)] = some (.dat (.bool (keepB r (.rate i j m)))) := by
  obtain ⟨h1, t, h2, h3⟩ := ht
  have hj : j < ts.length := (List.getElem?_eq_some_iff.mp h2).1
  have ei := atI_mapD spD (room_at (r := r) (i := i) (by rw [hr.1]; exact h1))
  have ej := atI_mapD spD (room_at (r := r) (i := j) (by rw [hr.1]; exact hj))
  have ti := trend_at hr h1
  have si := small_of ti
  have q := sgn_rate ti ((sp r j).1 - (2 * (m : Int) + 1))
  have e1 : (sp r j).1 - 2 * (m : Int) - 1 = (sp r j).1 - (2 * (m : Int) + 1) := by omega
  by_cases hz : 0 < (sp r i).2 * ((sp r j).1 - (2 * (m : Int) + 1)) <;> by_cases hy : (sp r i).2 = 0 <;>
    simp [F__law_keeps, m__law_keeps, bodyP, bodyL, bodyR, bodyX, bodyT, slots, slotsR, ssT, sSeq, sIf, sNx, sRet, sRetL, sRetO, sRetX, sSet, sSetX, sOwn, sApp, sExt, sClr, sDrop, sDropX, sTgt, sFor, sFrz, frz, sRow, sTry, sRaise, noAt, noRow, mBor, mTst, mAnd, mOr, mNot, mIf, mAndV, mOrV, mNotV, mChain, m1, m2, bnd, opt, pur, mVar, mC, mCons, mNil, mTup, mLst, mList, mCall, mCallL, mCallX, mCallR, mOk, mHse, mMake, mSl, mSome, mNone, mSeq, mEn, mRg1, mRg2, mZ3, mLc, mLc2, mYes, mIxV, mInO, mRow1, mRow2, mRowLen, mRowAt, dats, putS, gNm, gTp, gsCons, gsNil, seqD, addD, subD, subI, mulD, fdivD, fdivI, modD, modI, negD, i2, ltD, ltI, leD, leI, gtD, gtI, geD, geI, eqD, neD, isND, notND, inD, ninD, ixD, slD, lenD, tupleD, listD, intD, lstD, isiD, isi2D, tyN, isTy, noOwn, wipeS, rmD, tieD, atI_0, atI_1, atI_2, atI_3, ei, ej, spD, eq_str, eq_int, dec_lit, in_two, keepB, si, e1, hz, hy] at q ⊢ <;> first | exact q | (rw [← q]; done) | (simp [q]; done) | skip
theorem lkeeps_edge {ts : List Thing} {r : List Spot} (hr : RoomOk ts.length r) {o : Bool} {i m : Nat} (ht : TieOk ts (.edge o i m)) : F__law_keeps [.dat (tieD (.edge o i m)), .dat (rmD r)] = some (.dat (.bool (keepB r (.edge o i m)))) := by
  obtain ⟨t, h2, h3⟩ := ht
  have hi : i < ts.length := (List.getElem?_eq_some_iff.mp h2).1
  have ei := atI_mapD spD (room_at (r := r) (i := i) (by rw [hr.1]; exact hi))
  cases o <;> simp [F__law_keeps, m__law_keeps, bodyP, bodyL, bodyR, bodyX, bodyT, slots, slotsR, ssT, sSeq, sIf, sNx, sRet, sRetL, sRetO, sRetX, sSet, sSetX, sOwn, sApp, sExt, sClr, sDrop, sDropX, sTgt, sFor, sFrz, frz, sRow, sTry, sRaise, noAt, noRow, mBor, mTst, mAnd, mOr, mNot, mIf, mAndV, mOrV, mNotV, mChain, m1, m2, bnd, opt, pur, mVar, mC, mCons, mNil, mTup, mLst, mList, mCall, mCallL, mCallX, mCallR, mOk, mHse, mMake, mSl, mSome, mNone, mSeq, mEn, mRg1, mRg2, mZ3, mLc, mLc2, mYes, mIxV, mInO, mRow1, mRow2, mRowLen, mRowAt, dats, putS, gNm, gTp, gsCons, gsNil, seqD, addD, subD, subI, mulD, fdivD, fdivI, modD, modI, negD, i2, ltD, ltI, leD, leI, gtD, gtI, geD, geI, eqD, neD, isND, notND, inD, ninD, ixD, slD, lenD, tupleD, listD, intD, lstD, isiD, isi2D, tyN, isTy, noOwn, wipeS, rmD, tieD, atI_0, atI_1, atI_2, atI_3, ei, spD, eq_str, eq_int, dec_lit, in_two, keepB] <;> omega
theorem lkeeps_two {ts : List Thing} {r : List Spot} (hr : RoomOk ts.length r) {a : Bool} {i j : Nat} (ht : TieOk ts (.two a i j)) : F__law_keeps [.dat (tieD (.two a i j)), .dat (rmD r)] = some (.dat (.bool (keepB r (.two a i j)))) := by
  obtain ⟨h1, h2, h3⟩ := ht
  have ei := atI_mapD spD (room_at (r := r) (i := i) (by rw [hr.1]; exact h1))
  have ej := atI_mapD spD (room_at (r := r) (i := j) (by rw [hr.1]; exact h2))
  cases a <;> simp [F__law_keeps, m__law_keeps, bodyP, bodyL, bodyR, bodyX, bodyT, slots, slotsR, ssT, sSeq, sIf, sNx, sRet, sRetL, sRetO, sRetX, sSet, sSetX, sOwn, sApp, sExt, sClr, sDrop, sDropX, sTgt, sFor, sFrz, frz, sRow, sTry, sRaise, noAt, noRow, mBor, mTst, mAnd, mOr, mNot, mIf, mAndV, mOrV, mNotV, mChain, m1, m2, bnd, opt, pur, mVar, mC, mCons, mNil, mTup, mLst, mList, mCall, mCallL, mCallX, mCallR, mOk, mHse, mMake, mSl, mSome, mNone, mSeq, mEn, mRg1, mRg2, mZ3, mLc, mLc2, mYes, mIxV, mInO, mRow1, mRow2, mRowLen, mRowAt, dats, putS, gNm, gTp, gsCons, gsNil, seqD, addD, subD, subI, mulD, fdivD, fdivI, modD, modI, negD, i2, ltD, ltI, leD, leI, gtD, gtI, geD, geI, eqD, neD, isND, notND, inD, ninD, ixD, slD, lenD, tupleD, listD, intD, lstD, isiD, isi2D, tyN, isTy, noOwn, wipeS, rmD, tieD, atI_0, atI_1, atI_2, atI_3, ei, ej, spD, eq_str, eq_int, dec_lit, in_two, keepB]
theorem lkeeps_prod {ts : List Thing} {r : List Spot} (hr : RoomOk ts.length r) {i j k : Nat} (ht : TieOk ts (.three true i j k)) : F__law_keeps [.dat (tieD (.three true i j k)), .dat (rmD r)] = some (.dat (.bool (keepB r (.three true i j k)))) := by
  obtain ⟨h1, h2, h3, _⟩ := ht
  have ei := atI_mapD spD (room_at (r := r) (i := i) (by rw [hr.1]; exact h1))
  have ej := atI_mapD spD (room_at (r := r) (i := j) (by rw [hr.1]; exact h2))
  have ek := atI_mapD spD (room_at (r := r) (i := k) (by rw [hr.1]; exact h3))
  have tj := small_of (trend_at hr h2)
  simp [F__law_keeps, m__law_keeps, bodyP, bodyL, bodyR, bodyX, bodyT, slots, slotsR, ssT, sSeq, sIf, sNx, sRet, sRetL, sRetO, sRetX, sSet, sSetX, sOwn, sApp, sExt, sClr, sDrop, sDropX, sTgt, sFor, sFrz, frz, sRow, sTry, sRaise, noAt, noRow, mBor, mTst, mAnd, mOr, mNot, mIf, mAndV, mOrV, mNotV, mChain, m1, m2, bnd, opt, pur, mVar, mC, mCons, mNil, mTup, mLst, mList, mCall, mCallL, mCallX, mCallR, mOk, mHse, mMake, mSl, mSome, mNone, mSeq, mEn, mRg1, mRg2, mZ3, mLc, mLc2, mYes, mIxV, mInO, mRow1, mRow2, mRowLen, mRowAt, dats, putS, gNm, gTp, gsCons, gsNil, seqD, addD, subD, subI, mulD, fdivD, fdivI, modD, modI, negD, i2, ltD, ltI, leD, leI, gtD, gtI, geD, geI, eqD, neD, isND, notND, inD, ninD, ixD, slD, lenD, tupleD, listD, intD, lstD, isiD, isi2D, tyN, isTy, noOwn, wipeS, rmD, tieD, atI_0, atI_1, atI_2, atI_3, ei, ej, ek, spD, eq_str, eq_int, dec_lit, in_two, keepB, tj]
theorem lkeeps_sum {ts : List Thing} {r : List Spot} (hr : RoomOk ts.length r) {i j k : Nat} (ht : TieOk ts (.three false i j k)) : F__law_keeps [.dat (tieD (.three false i j k)), .dat (rmD r)] = some (.dat (.bool (keepB r (.three false i j k)))) := by
  obtain ⟨h1, h2, h3, _⟩ := ht
  have ei := atI_mapD spD (room_at (r := r) (i := i) (by rw [hr.1]; exact h1))
  have ej := atI_mapD spD (room_at (r := r) (i := j) (by rw [hr.1]; exact h2))
  have ek := atI_mapD spD (room_at (r := r) (i := k) (by rw [hr.1]; exact h3))
  rcases trend_at hr h1 with a | a | a <;> rcases trend_at hr h2 with b | b | b <;> rcases trend_at hr h3 with c | c | c <;>
    simp [F__law_keeps, m__law_keeps, bodyP, bodyL, bodyR, bodyX, bodyT, slots, slotsR, ssT, sSeq, sIf, sNx, sRet, sRetL, sRetO, sRetX, sSet, sSetX, sOwn, sApp, sExt, sClr, sDrop, sDropX, sTgt, sFor, sFrz, frz, sRow, sTry, sRaise, noAt, noRow, mBor, mTst, mAnd, mOr, mNot, mIf, mAndV, mOrV, mNotV, mChain, m1, m2, bnd, opt, pur, mVar, mC, mCons, mNil, mTup, mLst, mList, mCall, mCallL, mCallX, mCallR, mOk, mHse, mMake, mSl, mSome, mNone, mSeq, mEn, mRg1, mRg2, mZ3, mLc, mLc2, mYes, mIxV, mInO, mRow1, mRow2, mRowLen, mRowAt, dats, putS, gNm, gTp, gsCons, gsNil, seqD, addD, subD, subI, mulD, fdivD, fdivI, modD, modI, negD, i2, ltD, ltI, leD, leI, gtD, gtI, geD, geI, eqD, neD, isND, notND, inD, ninD, ixD, slD, lenD, tupleD, listD, intD, lstD, isiD, isi2D, tyN, isTy, noOwn, wipeS, rmD, tieD, atI_0, atI_1, atI_2, atI_3, ei, ej, ek, spD, eq_str, eq_int, dec_lit, in_two, keepB, a, b, c, lcGo, sgn] <;> rfl
end Law
/-! The first tie that is not kept; spots; all rooms; rooms. -/
namespace Law
open PySem L2 FL
theorem lkeeps_val {ts : List Thing} {r : List Spot} (hr : RoomOk ts.length r) {t : Tie} (ht : TieOk ts t) : F__law_keeps [.dat (tieD t), .dat (rmD r)] = some (.dat (.bool (keepB r t))) := by
  cases t with
  | rate i j m => exact lkeeps_rate hr ht
  | edge o i m => exact lkeeps_edge hr ht
  | two a i j => exact lkeeps_two hr ht
  | three p i j k => cases p with
    | true => exact lkeeps_prod hr ht
    | false => exact lkeeps_sum hr ht
/-- the number of the first tie that is not kept -/
def firstB (r : List Spot) : List Tie → Nat → Option Nat
  | [], _ => none
  | t :: ts, k => if keepB r t = true then firstB r ts (k + 1) else some k
def optD : Option Nat → PyData
  | none => .none
  | some k => .int k
theorem first_go {ts : List Thing} {r : List Spot} (hr : RoomOk ts.length r) (A : Sl) : ∀ (ties : List Tie) (k : Nat) (s2 s3 : Sl) (rw : Ro), (∀ t ∈ ties, TieOk ts t) →
    ∃ s2' s3', forGo (gTp 2 (gsCons (gNm 2) (gsCons (gNm 3) gsNil))) (sIf (mNot (mTst (mCall F_keeps (mCons (mVar 1) (mCons (mVar 3) mNil))))) (sRet (mVar 2)) sNx) (((ties.map tieD).zipIdx k).map fun p => .tuple [.int (p.2 : Nat), p.1]) [A, .vl (.dat (rmD r)), s2, s3] rw =
      match firstB r ties k with
      | none => some (.nx [A, .vl (.dat (rmD r)), s2', s3'] rw)
      | some i => some (.rt (.dat (.int (i : Nat))) rw)
  | [], k, s2, s3, rw, _ => ⟨s2, s3, rfl⟩
  | t :: ties, k, s2, s3, rw, h => by
    have hk := keeps_val hr (h t List.mem_cons_self)
    rw [List.map_cons, List.zipIdx_cons, List.map_cons]
    have g1 : gTp 2 (gsCons (gNm 2) (gsCons (gNm 3) gsNil)) (.tuple [.int (k : Nat), tieD t]) [A, .vl (.dat (rmD r)), s2, s3] = some [A, .vl (.dat (rmD r)), .vl (.dat (.int (k : Nat))), .vl (.dat (tieD t))] := by
      simp [gTp, gsCons, gNm, gsNil, putS]
    unfold firstB
    cases e : keepB r t with
    | true =>
      obtain ⟨a, b, ih⟩ := first_go hr A ties (k + 1) (.vl (.dat (.int (k : Nat)))) (.vl (.dat (tieD t))) rw fun z hz => h z (List.mem_cons_of_mem _ hz)
      refine ⟨a, b, ?_⟩
      rw [forGo_step g1 (ss2 := [A, .vl (.dat (rmD r)), .vl (.dat (.int (k : Nat))), .vl (.dat (tieD t))]) (rw2 := rw) (by simp [bodyP, bodyL, bodyR, bodyX, bodyT, slots, slotsR, ssT, sSeq, sIf, sNx, sRet, sRetL, sRetO, sRetX, sSet, sSetX, sOwn, sApp, sExt, sClr, sDrop, sDropX, sTgt, sFor, sFrz, frz, sRow, sTry, sRaise, noAt, noRow, mBor, mTst, mAnd, mOr, mNot, mIf, mAndV, mOrV, mNotV, mChain, m1, m2, bnd, opt, pur, mVar, mC, mCons, mNil, mTup, mLst, mList, mCall, mCallL, mCallX, mCallR, mOk, mHse, mMake, mSl, mSome, mNone, mSeq, mEn, mRg1, mRg2, mZ3, mLc, mLc2, mYes, mIxV, mInO, mRow1, mRow2, mRowLen, mRowAt, dats, putS, gNm, gTp, gsCons, gsNil, seqD, addD, subD, subI, mulD, fdivD, fdivI, modD, modI, negD, i2, ltD, ltI, leD, leI, gtD, gtI, geD, geI, eqD, neD, isND, notND, inD, ninD, ixD, slD, lenD, tupleD, listD, intD, lstD, isiD, isi2D, tyN, isTy, noOwn, wipeS, hk, e]), ih]
      simp
    | false =>
      refine ⟨s2, s3, ?_⟩
      rw [forGo_ret g1 (v := .dat (.int (k : Nat))) (rw2 := rw) (by simp [bodyP, bodyL, bodyR, bodyX, bodyT, slots, slotsR, ssT, sSeq, sIf, sNx, sRet, sRetL, sRetO, sRetX, sSet, sSetX, sOwn, sApp, sExt, sClr, sDrop, sDropX, sTgt, sFor, sFrz, frz, sRow, sTry, sRaise, noAt, noRow, mBor, mTst, mAnd, mOr, mNot, mIf, mAndV, mOrV, mNotV, mChain, m1, m2, bnd, opt, pur, mVar, mC, mCons, mNil, mTup, mLst, mList, mCall, mCallL, mCallX, mCallR, mOk, mHse, mMake, mSl, mSome, mNone, mSeq, mEn, mRg1, mRg2, mZ3, mLc, mLc2, mYes, mIxV, mInO, mRow1, mRow2, mRowLen, mRowAt, dats, putS, gNm, gTp, gsCons, gsNil, seqD, addD, subD, subI, mulD, fdivD, fdivI, modD, modI, negD, i2, ltD, ltI, leD, leI, gtD, gtI, geD, geI, eqD, neD, isND, notND, inD, ninD, ixD, slD, lenD, tupleD, listD, intD, lstD, isiD, isi2D, tyN, isTy, noOwn, wipeS, hk, e])]
      simp
theorem first_val {ts : List Thing} {r : List Spot} (hr : RoomOk ts.length r) {ties : List Tie} (h : ∀ t ∈ ties, TieOk ts t) : F_first_broken [.dat (tisD ties), .dat (rmD r)] = some (.dat (optD (firstB r ties 0))) := by
  obtain ⟨a, b, e⟩ := first_go hr (.vl (.dat (tisD ties))) ties 0 .no .no (0, 0) h
  have e1 : mEn (mVar 0) (slots 4 [.dat (tisD ties), .dat (rmD r)]) (0, 0) = some ((((ties.map tieD).zipIdx 0).map fun p => .tuple [.int (p.2 : Nat), p.1]), (0, 0)) := rfl
  have e2 := (for_eq (g := gTp 2 (gsCons (gNm 2) (gsCons (gNm 3) gsNil))) (b := sIf (mNot (mTst (mCall F_keeps (mCons (mVar 1) (mCons (mVar 3) mNil))))) (sRet (mVar 2)) sNx) e1).trans e
  cases q : firstB r ties 0 with
  | none =>
    rw [q] at e2
    exact bodyP_rt (v := .dat .none) (rw := (0, 0)) rfl ((seq_nx e2).trans rfl)
  | some i =>
    rw [q] at e2
    exact bodyP_rt rfl (seq_rt e2)
theorem lfirst_go {ts : List Thing} {r : List Spot} (hr : RoomOk ts.length r) (all : List Tie) : ∀ (ties : List Tie) (k : Nat) (s2 : Sl) (rw : Ro), (∀ t ∈ ties, TieOk ts t) → all.drop k = ties →
    ∃ s2', forGo (gNm 2) (sIf (mNot (mTst (mCall F__law_keeps (mCons (m2 ixD (mVar 0) (mVar 2)) (mCons (mVar 1) mNil))))) (sRet (mVar 2)) sNx) ((List.range' k ties.length).map fun i => .int (i : Nat)) [.vl (.dat (tisD all)), .vl (.dat (rmD r)), s2] rw =
      match firstB r ties k with
      | none => some (.nx [.vl (.dat (tisD all)), .vl (.dat (rmD r)), s2'] rw)
      | some i => some (.rt (.dat (.int (i : Nat))) rw)
  | [], k, s2, rw, _, _ => ⟨s2, rfl⟩
  | t :: ties, k, s2, rw, h, hd => by
    have hk := lkeeps_val hr (h t List.mem_cons_self)
    have at_ : all[k]? = some t := by
      have := congrArg (·[0]?) hd
      simpa using this
    have ea := atI_mapD tieD at_
    rw [List.length_cons, List.range'_succ, List.map_cons]
    have g1 : gNm 2 (.int (k : Nat)) [.vl (.dat (tisD all)), .vl (.dat (rmD r)), s2] = some [.vl (.dat (tisD all)), .vl (.dat (rmD r)), .vl (.dat (.int (k : Nat)))] := by
      simp [gNm, putS]
    unfold firstB
    cases e : keepB r t with
    | true =>
      obtain ⟨a, ih⟩ := lfirst_go hr all ties (k + 1) (.vl (.dat (.int (k : Nat)))) rw (fun z hz => h z (List.mem_cons_of_mem _ hz)) (by
        have := congrArg (List.drop 1) hd
        simpa [List.drop_drop, Nat.add_comm] using this)
      refine ⟨a, ?_⟩
      rw [forGo_step g1 (ss2 := [.vl (.dat (tisD all)), .vl (.dat (rmD r)), .vl (.dat (.int (k : Nat)))]) (rw2 := rw) (by simp [bodyP, bodyL, bodyR, bodyX, bodyT, slots, slotsR, ssT, sSeq, sIf, sNx, sRet, sRetL, sRetO, sRetX, sSet, sSetX, sOwn, sApp, sExt, sClr, sDrop, sDropX, sTgt, sFor, sFrz, frz, sRow, sTry, sRaise, noAt, noRow, mBor, mTst, mAnd, mOr, mNot, mIf, mAndV, mOrV, mNotV, mChain, m1, m2, bnd, opt, pur, mVar, mC, mCons, mNil, mTup, mLst, mList, mCall, mCallL, mCallX, mCallR, mOk, mHse, mMake, mSl, mSome, mNone, mSeq, mEn, mRg1, mRg2, mZ3, mLc, mLc2, mYes, mIxV, mInO, mRow1, mRow2, mRowLen, mRowAt, dats, putS, gNm, gTp, gsCons, gsNil, seqD, addD, subD, subI, mulD, fdivD, fdivI, modD, modI, negD, i2, ltD, ltI, leD, leI, gtD, gtI, geD, geI, eqD, neD, isND, notND, inD, ninD, ixD, slD, lenD, tupleD, listD, intD, lstD, isiD, isi2D, tyN, isTy, noOwn, wipeS, tisD, ea, hk, e]), ih]
      simp
    | false =>
      refine ⟨s2, ?_⟩
      rw [forGo_ret g1 (v := .dat (.int (k : Nat))) (rw2 := rw) (by simp [bodyP, bodyL, bodyR, bodyX, bodyT, slots, slotsR, ssT, sSeq, sIf, sNx, sRet, sRetL, sRetO, sRetX, sSet, sSetX, sOwn, sApp, sExt, sClr, sDrop, sDropX, sTgt, sFor, sFrz, frz, sRow, sTry, sRaise, noAt, noRow, mBor, mTst, mAnd, mOr, mNot, mIf, mAndV, mOrV, mNotV, mChain, m1, m2, bnd, opt, pur, mVar, mC, mCons, mNil, mTup, mLst, mList, mCall, mCallL, mCallX, mCallR, mOk, mHse, mMake, mSl, mSome, mNone, mSeq, mEn, mRg1, mRg2, mZ3, mLc, mLc2, mYes, mIxV, mInO, mRow1, mRow2, mRowLen, mRowAt, dats, putS, gNm, gTp, gsCons, gsNil, seqD, addD, subD, subI, mulD, fdivD, fdivI, modD, modI, negD, i2, ltD, ltI, leD, leI, gtD, gtI, geD, geI, eqD, neD, isND, notND, inD, ninD, ixD, slD, lenD, tupleD, listD, intD, lstD, isiD, isi2D, tyN, isTy, noOwn, wipeS, tisD, ea, hk, e])]
      simp
theorem lfirst_val {ts : List Thing} {r : List Spot} (hr : RoomOk ts.length r) {ties : List Tie} (h : ∀ t ∈ ties, TieOk ts t) (hl : ties.length ≤ 1000) : F__law_first [.dat (tisD ties), .dat (rmD r)] = some (.dat (optD (firstB r ties 0))) := by
  obtain ⟨a, e⟩ := lfirst_go hr ties ties 0 .no (0, 0) h rfl
  have e1 : mRg1 (m1 lenD (mVar 0)) (slots 3 [.dat (tisD ties), .dat (rmD r)]) (0, 0) = some ((List.range' 0 ties.length).map fun i => .int (i : Nat), (0, 0)) := by
    have h2 : (-1000000 : Int) ≤ (ties.length : Int) ∧ (ties.length : Int) ≤ 1000000 := by omega
    simp [bodyP, bodyL, bodyR, bodyX, bodyT, slots, slotsR, ssT, sSeq, sIf, sNx, sRet, sRetL, sRetO, sRetX, sSet, sSetX, sOwn, sApp, sExt, sClr, sDrop, sDropX, sTgt, sFor, sFrz, frz, sRow, sTry, sRaise, noAt, noRow, mBor, mTst, mAnd, mOr, mNot, mIf, mAndV, mOrV, mNotV, mChain, m1, m2, bnd, opt, pur, mVar, mC, mCons, mNil, mTup, mLst, mList, mCall, mCallL, mCallX, mCallR, mOk, mHse, mMake, mSl, mSome, mNone, mSeq, mEn, mRg1, mRg2, mZ3, mLc, mLc2, mYes, mIxV, mInO, mRow1, mRow2, mRowLen, mRowAt, dats, putS, gNm, gTp, gsCons, gsNil, seqD, addD, subD, subI, mulD, fdivD, fdivI, modD, modI, negD, i2, ltD, ltI, leD, leI, gtD, gtI, geD, geI, eqD, neD, isND, notND, inD, ninD, ixD, slD, lenD, tupleD, listD, intD, lstD, isiD, isi2D, tyN, isTy, noOwn, wipeS, tisD, h2, rgD_map, List.range_eq_range']
  have e2 := (for_eq (g := gNm 2) (b := sIf (mNot (mTst (mCall F__law_keeps (mCons (m2 ixD (mVar 0) (mVar 2)) (mCons (mVar 1) mNil))))) (sRet (mVar 2)) sNx) e1).trans e
  cases q : firstB r ties 0 with
  | none =>
    rw [q] at e2
    exact bodyP_rt (v := .dat .none) (rw := (0, 0)) rfl ((seq_nx e2).trans rfl)
  | some i =>
    rw [q] at e2
    exact bodyP_rt rfl (seq_rt e2)
/-! ### spots -/
def spotsOf (n : Nat) : List Spot := (List.range (2 * n + 1)).flatMap fun (p : Nat) => if p % 2 = 1 then [((p : Int), 0)] else [((p : Int), -1), ((p : Int), 0), ((p : Int), 1)]
theorem spots_trend {n : Nat} {s : Spot} (h : s ∈ spotsOf n) : Trend s.2 := by
  unfold spotsOf at h
  rw [List.mem_flatMap] at h
  obtain ⟨p, _, h⟩ := h
  split at h
  · simp at h; subst h; exact .inr (.inl rfl)
  · simp at h
    rcases h with rfl | rfl | rfl
    · exact .inl rfl
    · exact .inr (.inl rfl)
    · exact .inr (.inr rfl)
theorem three_cases {ms : List Int} (h1 : 1 ≤ ms.length) (h3 : ms.length ≤ 3) : (∃ a, ms = [a]) ∨ (∃ a b, ms = [a, b]) ∨ ∃ a b c, ms = [a, b, c] := by
  match ms, h1, h3 with
  | [a], _, _ => exact .inl ⟨a, rfl⟩
  | [a, b], _, _ => exact .inr (.inl ⟨a, b, rfl⟩)
  | [a, b, c], _, _ => exact .inr (.inr ⟨a, b, c, rfl⟩)
theorem spots_len {n : Nat} (h : n ≤ 3) : (spotsOf n).length ≤ 15 ∧ 0 < (spotsOf n).length := by
  match n, h with
  | 0, _ => exact ⟨by decide, by decide⟩
  | 1, _ => exact ⟨by decide, by decide⟩
  | 2, _ => exact ⟨by decide, by decide⟩
  | 3, _ => exact ⟨by decide, by decide⟩
end Law
/-! Rooms made spot by spot; one of each. -/
namespace Law
open PySem L2 FL
def growR (found : List (List Spot)) (n : Nat) : List (List Spot) := found.flatMap fun r => (spotsOf n).map fun s => r ++ [s]
def goR (ts : List Thing) (found : List (List Spot)) : List (List Spot) := ts.foldl (fun f t => growR f t.2.length) found
def allR (ts : List Thing) : List (List Spot) := goR ts [[]]
def roomsOf (ts : List Thing) (ties : List Tie) : List (List Spot) := (allR ts).filter fun r => (firstB r ties 0).isNone
/-- things with one to three marks each -/
def Marked (ts : List Thing) : Prop := ∀ t ∈ ts, 1 ≤ t.2.length ∧ t.2.length ≤ 3
theorem grow_len {found : List (List Spot)} {n : Nat} (hn : n ≤ 3) : (growR found n).length ≤ found.length * 15 := by
  unfold growR
  induction found with
  | nil => simp
  | cons r rs ih =>
    rw [List.flatMap_cons, List.length_append, List.length_map, List.length_cons]
    have := (spots_len hn).1
    omega
theorem grow_ok {found : List (List Spot)} {n k : Nat} (h : ∀ r ∈ found, RoomOk k r) : ∀ r ∈ growR found n, RoomOk (k + 1) r := fun r hr => by
  unfold growR at hr
  rw [List.mem_flatMap] at hr
  obtain ⟨q, hq, hr⟩ := hr
  rw [List.mem_map] at hr
  obtain ⟨s, hs, rfl⟩ := hr
  obtain ⟨h1, h2⟩ := h q hq
  refine ⟨by simp [h1], fun z hz => ?_⟩
  rcases List.mem_append.mp hz with hz | hz
  · exact h2 z hz
  · simp at hz
    subst hz
    exact spots_trend hs
theorem go_ok : ∀ (ts : List Thing) (found : List (List Spot)) (k : Nat), (∀ r ∈ found, RoomOk k r) → ∀ r ∈ goR ts found, RoomOk (k + ts.length) r
  | [], found, k, h => fun r hr => h r hr
  | t :: ts, found, k, h => fun r hr => by
    have := go_ok ts (growR found t.2.length) (k + 1) (grow_ok h) r hr
    rw [List.length_cons]
    have e : k + (ts.length + 1) = k + 1 + ts.length := by omega
    rw [e]
    exact this
theorem all_ok {ts : List Thing} {r : List Spot} (h : r ∈ allR ts) : RoomOk ts.length r := by
  have := go_ok ts [[]] 0 (fun r hr => by simp at hr; subst hr; exact ⟨rfl, fun s hs => by cases hs⟩) r h
  rw [Nat.zero_add] at this
  exact this
/-- one + (spot,) -/
theorem room_add {r : List Spot} (s : Spot) (h : r.length ≤ 10) : addD (.dat (rmD r)) (.dat (.tuple [spD s])) = some (.dat (rmD (r ++ [s]))) := by
  have e : r.length + 1 ≤ 100000 := by omega
  simp [addD, rmD, e]
/-! ### one of each -/
def growC (found : List (List Spot)) (c : List Spot) : List (List Spot) := found.flatMap fun r => c.map fun s => r ++ [s]
def prodC (cs : List (List Spot)) (found : List (List Spot)) : List (List Spot) := cs.foldl growC found
def chD (c : List Spot) : PyData := .list (c.map spD)
theorem growC_len {found : List (List Spot)} {c : List Spot} (hc : c.length ≤ 15) : (growC found c).length ≤ found.length * 15 := by
  unfold growC
  induction found with
  | nil => simp
  | cons r rs ih =>
    rw [List.flatMap_cons, List.length_append, List.length_map, List.length_cons]
    omega
theorem growC_mem {found : List (List Spot)} {c : List Spot} {r : List Spot} : r ∈ growC found c ↔ ∃ q ∈ found, ∃ s ∈ c, r = q ++ [s] := by
  unfold growC
  rw [List.mem_flatMap]
  constructor
  · rintro ⟨q, hq, h⟩
    obtain ⟨s, hs, rfl⟩ := List.mem_map.mp h
    exact ⟨q, hq, s, hs, rfl⟩
  · rintro ⟨q, hq, s, hs, rfl⟩
    exact ⟨q, hq, List.mem_map.mpr ⟨s, hs, rfl⟩⟩
theorem growC_lens {found : List (List Spot)} {c : List Spot} {k : Nat} (h : ∀ r ∈ found, r.length = k) : ∀ r ∈ growC found c, r.length = k + 1 := fun r hr => by
  obtain ⟨q, hq, s, _, rfl⟩ := growC_mem.mp hr
  rw [List.length_append, h q hq]
  rfl
theorem cho_go {A S1 : Sl} {c : List Spot} (hc : c.length ≤ 15) {rw : Ro} (found : List (List Spot)) : ∀ (n : Nat), (∀ r ∈ found, r.length ≤ 10) → found.length * 15 ≤ n →
    lcGo2 (gNm 3) (mSeq (mVar 2)) [4] (gNm 4) mYes (m2 addD (mVar 3) (mTup (mCons (mVar 4) mNil))) [A, S1, .vl (.dat (chD c)), .no, .no] (found.map rmD) n rw = some ((growC found c).map rmD, rw) := by
  induction found with
  | nil => intro n _ _; rfl
  | cons r found ih =>
    intro n h hn
    rw [List.length_cons] at hn
    have ih := ih (n - c.length) (fun q hq => h q (List.mem_cons_of_mem _ hq)) (by omega)
    have hr := h r List.mem_cons_self
    have inner : lcGo (gNm 4) mYes (m2 addD (mVar 3) (mTup (mCons (mVar 4) mNil))) [A, S1, .vl (.dat (chD c)), .vl (.dat (rmD r)), .no] (c.map spD) rw = some ((c.map fun s => rmD (r ++ [s])), rw) := by
      have := lcGo_map (g := gNm 4) (tt := mYes) (te := m2 addD (mVar 3) (mTup (mCons (mVar 4) mNil))) (ss := [A, S1, .vl (.dat (chD c)), .vl (.dat (rmD r)), .no]) (rw := rw) spD (fun s => rmD (r ++ [s])) (fun _ => true) c fun s _ => by
        refine ⟨[A, S1, .vl (.dat (chD c)), .vl (.dat (rmD r)), .vl (.dat (spD s))], rfl, rfl, fun _ => ?_⟩
        have ea := room_add s hr
        simp [m2, mTup, mCons, mNil, mVar, bnd, opt, pur, dats, ea]
      rw [List.filter_eq_self.mpr (fun _ _ => rfl)] at this
      exact this
    have src : mSeq (mVar 2) [A, S1, .vl (.dat (chD c)), .vl (.dat (rmD r)), .no] rw = some (c.map spD, rw) := rfl
    rw [List.map_cons]
    have hle : (c.map spD).length ≤ n := by
      rw [List.length_map]
      omega
    rw [lcGo2_cons (ss1 := [A, S1, .vl (.dat (chD c)), .vl (.dat (rmD r)), .no]) (by simp [gNm, putS]) (by simp [noOwn]) src hle inner (by rw [List.length_map]; exact ih)]
    simp [growC]
theorem one_go (A : Sl) : ∀ (cs : List (List Spot)) (found : List (List Spot)) (s2 : Sl) (k : Nat) (rw : Ro), (∀ c ∈ cs, c.length ≤ 15) → (∀ r ∈ found, r.length = k) → k + cs.length ≤ 10 → found.length * 15 ^ cs.length ≤ 100000 → noOwn [A, .vl (.dat (.list (found.map rmD))), s2, .no, .no] [3, 4] = true →
    ∃ s2', forGo (gNm 2) (sSet 1 (mList (mLc2 [3, 4] (mSeq (mVar 1)) (gNm 3) (mSeq (mVar 2)) [4] (gNm 4) mYes (m2 addD (mVar 3) (mTup (mCons (mVar 4) mNil)))))) (cs.map chD) [A, .vl (.dat (.list (found.map rmD))), s2, .no, .no] rw =
      some (.nx [A, .vl (.dat (.list ((prodC cs found).map rmD))), s2', .no, .no] rw)
  | [], found, s2, k, rw, _, _, _, _, _ => ⟨s2, rfl⟩
  | c :: cs, found, s2, k, rw, hm, hf, hk, hl, hno => by
    have h15 := hm c List.mem_cons_self
    rw [List.length_cons] at hk
    have hp : 1 ≤ 15 ^ cs.length := Nat.one_le_pow _ _ (by decide)
    have hl1 : found.length * 15 * 15 ^ cs.length ≤ 100000 := by
      rw [List.length_cons, Nat.pow_succ] at hl
      rw [Nat.mul_assoc, Nat.mul_comm 15]
      exact hl
    have hl0 : found.length * 15 ≤ 100000 := Nat.le_trans (Nat.le_mul_of_pos_right _ hp) hl1
    have hno2 : noOwn [A, .vl (.dat (.list (found.map rmD))), .vl (.dat (chD c)), .no, .no] [3, 4] = true := hno
    have two := cho_go (A := A) (S1 := .vl (.dat (.list (found.map rmD)))) h15 (rw := rw) found 100000 (fun r hr => by have := hf r hr; omega) hl0
    have step : sSet 1 (mList (mLc2 [3, 4] (mSeq (mVar 1)) (gNm 3) (mSeq (mVar 2)) [4] (gNm 4) mYes (m2 addD (mVar 3) (mTup (mCons (mVar 4) mNil))))) [A, .vl (.dat (.list (found.map rmD))), .vl (.dat (chD c)), .no, .no] rw =
        some (.nx [A, .vl (.dat (.list ((growC found c).map rmD))), .vl (.dat (chD c)), .no, .no] rw) := by
      have e : mLc2 [3, 4] (mSeq (mVar 1)) (gNm 3) (mSeq (mVar 2)) [4] (gNm 4) mYes (m2 addD (mVar 3) (mTup (mCons (mVar 4) mNil))) [A, .vl (.dat (.list (found.map rmD))), .vl (.dat (chD c)), .no, .no] rw = some ((growC found c).map rmD, rw) := by
        unfold mLc2
        rw [if_pos hno2]
        exact two
      exact set_eq (list_eq e) (by simp)
    have hlen : (growC found c).length * 15 ^ cs.length ≤ 100000 := Nat.le_trans (Nat.mul_le_mul_right _ (growC_len h15)) hl1
    obtain ⟨a, ih⟩ := one_go A cs (growC found c) (.vl (.dat (chD c))) (k + 1) rw (fun q hq => hm q (List.mem_cons_of_mem _ hq)) (growC_lens hf) (by omega) hlen hno
    refine ⟨a, ?_⟩
    rw [List.map_cons, forGo_step rfl step, ih]
    rfl
theorem prodC_go : ∀ (ts : List Thing) (found : List (List Spot)), prodC (ts.map fun t => spotsOf t.2.length) found = goR ts found
  | [], _ => rfl
  | t :: ts, found => prodC_go ts (growR found t.2.length)
end Law
/-! The law's rooms; alike. -/
namespace Law
open PySem L2 FL
theorem all_len {ts : List Thing} (hm : Marked ts) (hl : ts.length ≤ 3) : (allR ts).length ≤ 3375 := by
  have go : ∀ (ts : List Thing) (found : List (List Spot)), Marked ts → (goR ts found).length ≤ found.length * 15 ^ ts.length := fun ts => by
    induction ts with
    | nil => intro found _; simp [goR]
    | cons t ts ih =>
      intro found hm
      have h := ih (growR found t.2.length) fun q hq => hm q (List.mem_cons_of_mem _ hq)
      have g := grow_len (found := found) (hm t List.mem_cons_self).2
      have : (growR found t.2.length).length * 15 ^ ts.length ≤ found.length * 15 * 15 ^ ts.length := Nat.mul_le_mul_right _ g
      rw [List.length_cons, Nat.pow_succ, Nat.mul_comm (15 ^ ts.length) 15, ← Nat.mul_assoc]
      exact Nat.le_trans h this
  have h := go ts [[]] hm
  have p : (15 : Nat) ^ ts.length ≤ 15 ^ 3 := Nat.pow_le_pow_right (by decide) hl
  have : (allR ts).length ≤ 1 * 15 ^ ts.length := h
  omega
/-! ### alike -/
theorem alike_none (n : Nat) : F__law_alike (n + 1) [.dat .none, .dat .none] = some (.dat (.bool true)) := by
  refine bodyP_rt (rw := (0, 0)) rfl ?_
  simp [m__law_alike, bodyP, bodyL, bodyR, bodyX, bodyT, slots, slotsR, ssT, sSeq, sIf, sNx, sRet, sRetL, sRetO, sRetX, sSet, sSetX, sOwn, sApp, sExt, sClr, sDrop, sDropX, sTgt, sFor, sFrz, frz, sRow, sTry, sRaise, noAt, noRow, mBor, mTst, mAnd, mOr, mNot, mIf, mAndV, mOrV, mNotV, mChain, m1, m2, bnd, opt, pur, mVar, mC, mCons, mNil, mTup, mLst, mList, mCall, mCallL, mCallX, mCallR, mOk, mHse, mMake, mSl, mSome, mNone, mSeq, mEn, mRg1, mRg2, mZ3, mLc, mLc2, mYes, mIxV, mInO, mRow1, mRow2, mRowLen, mRowAt, dats, putS, gNm, gTp, gsCons, gsNil, seqD, addD, subD, subI, mulD, fdivD, fdivI, modD, modI, negD, i2, ltD, ltI, leD, leI, gtD, gtI, geD, geI, eqD, neD, isND, notND, inD, ninD, ixD, slD, lenD, tupleD, listD, intD, lstD, isiD, isi2D, tyN, isTy, noOwn, wipeS]
theorem alike_int (n : Nat) (a : Int) : F__law_alike (n + 1) [.dat (.int a), .dat (.int a)] = some (.dat (.bool true)) := by
  refine bodyP_rt (rw := (0, 0)) rfl ?_
  simp [m__law_alike, bodyP, bodyL, bodyR, bodyX, bodyT, slots, slotsR, ssT, sSeq, sIf, sNx, sRet, sRetL, sRetO, sRetX, sSet, sSetX, sOwn, sApp, sExt, sClr, sDrop, sDropX, sTgt, sFor, sFrz, frz, sRow, sTry, sRaise, noAt, noRow, mBor, mTst, mAnd, mOr, mNot, mIf, mAndV, mOrV, mNotV, mChain, m1, m2, bnd, opt, pur, mVar, mC, mCons, mNil, mTup, mLst, mList, mCall, mCallL, mCallX, mCallR, mOk, mHse, mMake, mSl, mSome, mNone, mSeq, mEn, mRg1, mRg2, mZ3, mLc, mLc2, mYes, mIxV, mInO, mRow1, mRow2, mRowLen, mRowAt, dats, putS, gNm, gTp, gsCons, gsNil, seqD, addD, subD, subI, mulD, fdivD, fdivI, modD, modI, negD, i2, ltD, ltI, leD, leI, gtD, gtI, geD, geI, eqD, neD, isND, notND, inD, ninD, ixD, slD, lenD, tupleD, listD, intD, lstD, isiD, isi2D, tyN, isTy, noOwn, wipeS, eq_int]
theorem alike_seq (n : Nat) (F : List PyData → PyData) (hF : F = .tuple ∨ F = .list) {ds : List PyData} (hl : ds.length ≤ 100000) (h : ∀ d ∈ ds, F__law_alike n [.dat d, .dat d] = some (.dat (.bool true))) : F__law_alike (n + 1) [.dat (F ds), .dat (F ds)] = some (.dat (.bool true)) := by
  have go : ∀ (A B : Sl), mVar 0 [A, B, .no] (0, 0) = some (.dat (F ds), (0, 0)) → mVar 1 [A, B, .no] (0, 0) = some (.dat (F ds), (0, 0)) → True := fun _ _ _ _ => trivial
  have ix : ∀ k d, ds[k]? = some d → ixD (.dat (F ds)) (.dat (.int (k : Nat))) = some (.dat d) := fun k d hk => by
    rcases hF with rfl | rfl
    · simp [ixD, atI_nat hk]
    · simp [ixD, atI_nat hk]
  have lc : mLc [2] (mRg1 (m1 lenD (mVar 1))) (gNm 2) (mNot (mTst (mCall (F__law_alike n) (mCons (m2 ixD (mVar 0) (mVar 2)) (mCons (m2 ixD (mVar 1) (mVar 2)) mNil))))) (mVar 2) [.vl (.dat (F ds)), .vl (.dat (F ds)), .no] (0, 0) = some ([], (0, 0)) := by
    have src : mRg1 (m1 lenD (mVar 1)) [.vl (.dat (F ds)), .vl (.dat (F ds)), .no] (0, 0) = some ((List.range ds.length).map fun i => .int (i : Nat), (0, 0)) := by
      have h2 : (-1000000 : Int) ≤ (ds.length : Int) ∧ (ds.length : Int) ≤ 1000000 := by omega
      rcases hF with rfl | rfl <;> simp [mRg1, m1, lenD, mVar, bnd, opt, pur, h2, rgD_map]
    rw [lc_eq rfl src (by rw [List.length_map, List.length_range]; exact hl)]
    have := lcGo_map (g := gNm 2) (tt := mNot (mTst (mCall (F__law_alike n) (mCons (m2 ixD (mVar 0) (mVar 2)) (mCons (m2 ixD (mVar 1) (mVar 2)) mNil))))) (te := mVar 2) (ss := [.vl (.dat (F ds)), .vl (.dat (F ds)), .no]) (rw := (0, 0)) (fun i : Nat => .int i) (fun i : Nat => .int i) (fun _ => false) (List.range ds.length) fun i hi => by
      rw [List.mem_range] at hi
      obtain ⟨d, hd⟩ : ∃ d, ds[i]? = some d := ⟨_, List.getElem?_eq_getElem hi⟩
      have hx := ix i d hd
      exact ⟨[.vl (.dat (F ds)), .vl (.dat (F ds)), .vl (.dat (.int (i : Nat)))], rfl, not_eq (b := true) (tst_eq (call_eq (cons_eq (m2_eq rfl rfl hx) (cons_eq (m2_eq rfl rfl hx) rfl)) (h d (List.mem_of_getElem? hd)))), fun z => by cases z⟩
    have e0 : (List.range ds.length).filter (fun _ => false) = [] := List.filter_eq_nil_iff.mpr fun _ _ => by simp
    rw [e0] at this
    exact this
  refine bodyP_rt (rw := (0, 0)) rfl ?_
  have last := ret_eq (m2_eq (g := eqD) (list_eq lc) (show mList (mLst mNil) [.vl (.dat (F ds)), .vl (.dat (F ds)), .no] (0, 0) = some (.dat (.list []), (0, 0)) from rfl) (show eqD (.dat (.list [])) (.dat (.list [])) = some (.dat (.bool true)) by simp [eqD, ne_nil0]))
  refine seq_rt ((ifT (rw1 := (0, 0)) ?_).trans ((seq_nx (ss1 := [.vl (.dat (F ds)), .vl (.dat (F ds)), .no]) (rw1 := (0, 0)) ((ifF (rw1 := (0, 0)) ?_).trans rfl)).trans ((seq_nx (ss1 := [.vl (.dat (F ds)), .vl (.dat (F ds)), .no]) (rw1 := (0, 0)) ((ifF (rw1 := (0, 0)) ?_).trans rfl)).trans last)))
  · rcases hF with rfl | rfl <;> rfl
  · rcases hF with rfl | rfl <;> rfl
  · rcases hF with rfl | rfl <;> simp [mTst, m2, m1, lenD, neD, mVar, bnd, opt, eq_int, slots]
theorem alike_spot (n : Nat) (s : Spot) : F__law_alike (n + 2) [.dat (spD s), .dat (spD s)] = some (.dat (.bool true)) :=
  alike_seq (n + 1) .tuple (.inl rfl) (show (2 : Nat) ≤ 100000 by decide) fun d hd => by
    rcases List.mem_cons.mp hd with rfl | hd
    · exact alike_int n _
    · rcases List.mem_cons.mp hd with rfl | hd
      · exact alike_int n _
      · cases hd
theorem alike_room (n : Nat) {r : List Spot} (h : r.length ≤ 100000) : F__law_alike (n + 3) [.dat (rmD r), .dat (rmD r)] = some (.dat (.bool true)) :=
  alike_seq (n + 2) .tuple (.inl rfl) (by rw [List.length_map]; exact h) fun d hd => by
    obtain ⟨s, _, rfl⟩ := List.mem_map.mp hd
    exact alike_spot n s
theorem alike_rooms (n : Nat) {rs : List (List Spot)} (h : rs.length ≤ 100000) (hr : ∀ r ∈ rs, r.length ≤ 100000) : F__law_alike (n + 4) [.dat (.list (rs.map rmD)), .dat (.list (rs.map rmD))] = some (.dat (.bool true)) :=
  alike_seq (n + 3) .list (.inr rfl) (by rw [List.length_map]; exact h) fun d hd => by
    obtain ⟨r, h1, rfl⟩ := List.mem_map.mp hd
    exact alike_room n (hr r h1)
theorem alike_opt (n : Nat) (o : Option Nat) : F__law_alike (n + 1) [.dat (optD o), .dat (optD o)] = some (.dat (.bool true)) := by
  cases o with
  | none => exact alike_none n
  | some i => exact alike_int n _
end Law
/-! What the script draws: numbers, marks. -/
namespace Law
open PySem L2 FL
theorem taken_val (ns : List Int) {m : Int} (hm : 0 < m) {rw : Ro} (h : 0 ≤ rw.1) : ∃ v rw', F__law_taken ns [.dat (.int m)] rw = some (.dat (.int v), rw') ∧ 0 ≤ v ∧ v < m ∧ 0 ≤ rw'.1 := by
  obtain ⟨c, s⟩ := rw
  simp only at h
  by_cases hc : (ns.length : Int) < c + 1
  · refine ⟨(s * 48271 + 11) % 2147483647 / 7 % m, (c + 1, (s * 48271 + 11) % 2147483647), ?_, Int.emod_nonneg _ (by omega), Int.emod_lt_of_pos _ hm, by simp only; omega⟩
    simp [F__law_taken, m__law_taken, bodyP, bodyL, bodyR, bodyX, bodyT, slots, slotsR, ssT, sSeq, sIf, sNx, sRet, sRetL, sRetO, sRetX, sSet, sSetX, sOwn, sApp, sExt, sClr, sDrop, sDropX, sTgt, sFor, sFrz, frz, sRow, sTry, sRaise, noAt, noRow, mBor, mTst, mAnd, mOr, mNot, mIf, mAndV, mOrV, mNotV, mChain, m1, m2, bnd, opt, pur, mVar, mC, mCons, mNil, mTup, mLst, mList, mCall, mCallL, mCallX, mCallR, mOk, mHse, mMake, mSl, mSome, mNone, mSeq, mEn, mRg1, mRg2, mZ3, mLc, mLc2, mYes, mIxV, mInO, mRow1, mRow2, mRowLen, mRowAt, dats, putS, gNm, gTp, gsCons, gsNil, seqD, addD, subD, subI, mulD, fdivD, fdivI, modD, modI, negD, i2, ltD, ltI, leD, leI, gtD, gtI, geD, geI, eqD, neD, isND, notND, inD, ninD, ixD, slD, lenD, tupleD, listD, intD, lstD, isiD, isi2D, tyN, isTy, noOwn, wipeS, hc, hm]
  · obtain ⟨x, hx⟩ : ∃ x, ns[c.toNat]? = some x := ⟨_, List.getElem?_eq_getElem (by omega)⟩
    have ha : atI ns c = some x := by
      have := atI_nat hx
      rw [Int.toNat_of_nonneg h] at this
      exact this
    refine ⟨x % m, (c + 1, (s * 48271 + x + 11) % 2147483647), ?_, Int.emod_nonneg _ (by omega), Int.emod_lt_of_pos _ hm, by simp only; omega⟩
    simp [F__law_taken, m__law_taken, bodyP, bodyL, bodyR, bodyX, bodyT, slots, slotsR, ssT, sSeq, sIf, sNx, sRet, sRetL, sRetO, sRetX, sSet, sSetX, sOwn, sApp, sExt, sClr, sDrop, sDropX, sTgt, sFor, sFrz, frz, sRow, sTry, sRaise, noAt, noRow, mBor, mTst, mAnd, mOr, mNot, mIf, mAndV, mOrV, mNotV, mChain, m1, m2, bnd, opt, pur, mVar, mC, mCons, mNil, mTup, mLst, mList, mCall, mCallL, mCallX, mCallR, mOk, mHse, mMake, mSl, mSome, mNone, mSeq, mEn, mRg1, mRg2, mZ3, mLc, mLc2, mYes, mIxV, mInO, mRow1, mRow2, mRowLen, mRowAt, dats, putS, gNm, gTp, gsCons, gsNil, seqD, addD, subD, subI, mulD, fdivD, fdivI, modD, modI, negD, i2, ltD, ltI, leD, leI, gtD, gtI, geD, geI, eqD, neD, isND, notND, inD, ninD, ixD, slD, lenD, tupleD, listD, intD, lstD, isiD, isi2D, tyN, isTy, noOwn, wipeS, hc, hm, ha]
/-- a number drawn, in any slot's place -/
theorem draw {ns : List Int} {ma : Mx (List Vl)} {i : Nat} {ss : List Sl} {rw rw1 : Ro} {m : Int} (h0 : ss[i]? = some .row) (h1 : ma ss rw = some ([.dat (.int m)], rw1)) (hm : 0 < m) (h : 0 ≤ rw1.1) :
    ∃ v rw', mCallR i (F__law_taken ns) ma ss rw = some (.dat (.int v), rw') ∧ 0 ≤ v ∧ v < m ∧ 0 ≤ rw'.1 := by
  obtain ⟨v, rw', e, h2, h3, h4⟩ := taken_val ns hm h
  exact ⟨v, rw', callR_eq h0 h1 e, h2, h3, h4⟩
/-- marks as they may be -/
structure MarksOk (ms : List Int) : Prop where
  l1 : 1 ≤ ms.length
  l3 : ms.length ≤ 3
  in_ : ∀ m ∈ ms, -99 ≤ m ∧ m ≤ 99
  gap : ∀ i a b, ms[i]? = some a → ms[i + 1]? = some b → a + 2 ≤ b
/-- the offsets: 0, then gaps of 2 to 61 -/
def OffOk (k : Nat) (os : List Int) : Prop := os.length = k ∧ ∃ d e, os = (match k with | 1 => [0] | 2 => [0, 2 + d] | _ => [0, 2 + d, 2 + d + 2 + e]) ∧ 0 ≤ d ∧ d < 60 ∧ 0 ≤ e ∧ e < 60
theorem tail_marks (ns : List Int) {A B C : Sl} {s4 s5 : Sl} {os : List Int} {last : Int} (hl : os.getLast? = some last) (h0 : 0 ≤ last) (h1 : last ≤ 130) (hlen : os.length ≤ 3) (ho : ∀ o ∈ os, 0 ≤ o ∧ o ≤ last) {rw : Ro} (h : 0 ≤ rw.1) :
    ∃ b rw', sSeq (sSet 5 (m2 subD (mCallR 0 (F__law_taken ns) (mCons (m2 subD (mC (.int 199)) (mIxV 3 (m1 negD (mC (.int 1))))) mNil)) (mC (.int 99)))) (sSeq (sIf (mTst (m2 eqD (mCallR 0 (F__law_taken ns) (mCons (mC (.int 6)) mNil)) (mC (.int 5)))) (sSet 5 (m2 ixD (mList (mLst (mCons (m2 subD (mC (.int 0)) (mC (.int 99))) (mCons (m2 subD (mC (.int 99)) (mIxV 3 (m1 negD (mC (.int 1))))) mNil)))) (mCallR 0 (F__law_taken ns) (mCons (mC (.int 2)) mNil)))) sNx) (sFrz 3 (sRet (m1 tupleD (mList (mLc [6] (mSeq (mVar 3)) (gNm 6) mYes (m2 addD (mVar 5) (mVar 6)))))))) [.row, B, C, .own (os.map .int), s4, s5, .no] rw =
      some (.rt (.dat (mkD (os.map (b + ·)))) rw') ∧ -99 ≤ b ∧ b + last ≤ 99 ∧ 0 ≤ rw'.1 := by
  have hL : (os.map PyData.int).getLast? = some (.int last) := by rw [List.getLast?_map, hl]; rfl
  have aL := atI_last hL
  have ixl : ∀ (s5 : Sl) (rw : Ro), mIxV 3 (m1 negD (mC (.int 1))) [.row, B, C, .own (os.map .int), s4, s5, .no] rw = some (.dat (.int last), rw) := fun s5 rw => by
    simp [mIxV, m1, negD, mC, bnd, opt, pur, aL]
  have a1 : (mCons (m2 subD (mC (.int 199)) (mIxV 3 (m1 negD (mC (.int 1))))) mNil) [.row, B, C, .own (os.map .int), s4, s5, .no] rw = some ([.dat (.int (199 - last))], rw) := cons_eq (m2_eq rfl (ixl s5 rw) rfl) rfl
  obtain ⟨v, rw1, e1, v0, v1, r1⟩ := draw (ns := ns) (i := 0) rfl a1 (by omega) h
  have st1 : sSet 5 (m2 subD (mCallR 0 (F__law_taken ns) (mCons (m2 subD (mC (.int 199)) (mIxV 3 (m1 negD (mC (.int 1))))) mNil)) (mC (.int 99))) [.row, B, C, .own (os.map .int), s4, s5, .no] rw = some (.nx [.row, B, C, .own (os.map .int), s4, .vl (.dat (.int (v - 99))), .no] rw1) :=
    set_eq (m2_eq e1 rfl rfl) (by simp)
  rw [seq_nx st1]
  obtain ⟨u, rw2, e2, u0, u1, r2⟩ := draw (ns := ns) (i := 0) (ma := mCons (mC (.int 6)) mNil) (ss := [.row, B, C, .own (os.map .int), s4, .vl (.dat (.int (v - 99))), .no]) (rw := rw1) rfl rfl (by decide) r1
  have tst : mTst (m2 eqD (mCallR 0 (F__law_taken ns) (mCons (mC (.int 6)) mNil)) (mC (.int 5))) [.row, B, C, .own (os.map .int), s4, .vl (.dat (.int (v - 99))), .no] rw1 = some (decide (u = 5), rw2) :=
    tst_eq (m2_eq e2 rfl (by simp [eqD, eq_int]))
  -- the end, from any begin
  have fin : ∀ (b : Int) (rw : Ro), sFrz 3 (sRet (m1 tupleD (mList (mLc [6] (mSeq (mVar 3)) (gNm 6) mYes (m2 addD (mVar 5) (mVar 6)))))) [.row, B, C, .own (os.map .int), s4, .vl (.dat (.int b)), .no] rw = some (.rt (.dat (mkD (os.map (b + ·)))) rw) := fun b rw => by
    have go := lcGo_map (g := gNm 6) (tt := mYes) (te := m2 addD (mVar 5) (mVar 6)) (ss := [.row, B, C, .vl (.dat (.list (os.map .int))), s4, .vl (.dat (.int b)), .no]) (rw := rw) PyData.int (fun o => .int (b + o)) (fun _ => true) os fun o _ => ⟨[.row, B, C, .vl (.dat (.list (os.map .int))), s4, .vl (.dat (.int b)), .vl (.dat (.int o))], rfl, rfl, fun _ => rfl⟩
    rw [List.filter_eq_self.mpr (fun _ _ => rfl)] at go
    have lc := (lc_eq (vs := [6]) (mi := mSeq (mVar 3)) (g := gNm 6) (tt := mYes) (te := m2 addD (mVar 5) (mVar 6)) (ss := [.row, B, C, .vl (.dat (.list (os.map .int))), s4, .vl (.dat (.int b)), .no]) (rw := rw) rfl rfl (by rw [List.length_map]; omega)).trans go
    have := ret_eq (m1_eq (g := tupleD) (list_eq lc) rfl)
    show sRet (m1 tupleD (mList (mLc [6] (mSeq (mVar 3)) (gNm 6) mYes (m2 addD (mVar 5) (mVar 6))))) [.row, B, C, .vl (.dat (.list (os.map .int))), s4, .vl (.dat (.int b)), .no] rw = _
    rw [this, mkD, List.map_map]
    rfl
  cases hu : decide (u = 5) with
  | false =>
    rw [hu] at tst
    refine ⟨v - 99, rw2, ?_, by omega, by omega, r2⟩
    rw [seq_nx ((ifF tst).trans rfl)]
    exact fin _ _
  | true =>
    rw [hu] at tst
    obtain ⟨z, rw3, e3, z0, z1, r3⟩ := draw (ns := ns) (i := 0) (ma := mCons (mC (.int 2)) mNil) (ss := [.row, B, C, .own (os.map .int), s4, .vl (.dat (.int (v - 99))), .no]) (rw := rw2) rfl rfl (by decide) r2
    have lst : mList (mLst (mCons (m2 subD (mC (.int 0)) (mC (.int 99))) (mCons (m2 subD (mC (.int 99)) (mIxV 3 (m1 negD (mC (.int 1))))) mNil))) [.row, B, C, .own (os.map .int), s4, .vl (.dat (.int (v - 99))), .no] rw2 = some (.dat (.list [.int (0 - 99), .int (99 - last)]), rw2) := by
      have := cons_eq (m := m2 subD (mC (.int 0)) (mC (.int 99))) (ss := [.row, B, C, .own (os.map .int), s4, .vl (.dat (.int (v - 99))), .no]) (rw := rw2) rfl (cons_eq (m2_eq (g := subD) (m := mC (.int 99)) rfl (ixl (.vl (.dat (.int (v - 99)))) rw2) rfl) (show mNil _ _ = some ([], rw2) from rfl))
      refine list_eq ?_
      unfold mLst bnd
      rw [this]
      rfl
    have hz : z = 0 ∨ z = 1 := by omega
    rcases hz with rfl | rfl
    · refine ⟨0 - 99, rw3, ?_, by omega, by omega, r3⟩
      rw [seq_nx ((ifT tst).trans (set_eq (m2_eq (g := ixD) (z := .dat (.int (0 - 99))) lst e3 (by simp [ixD, atI_0])) (by simp)))]
      exact fin _ _
    · refine ⟨99 - last, rw3, ?_, by omega, by omega, r3⟩
      rw [seq_nx ((ifT tst).trans (set_eq (m2_eq (g := ixD) (z := .dat (.int (99 - last))) lst e3 (by simp [ixD, atI_1])) (by simp)))]
      exact fin _ _
end Law
/-! Marks, drawn. -/
namespace Law
open PySem L2 FL
structure Off (os : List Int) (last : Int) : Prop where
  l : os.getLast? = some last
  b : ∀ o ∈ os, 0 ≤ o ∧ o ≤ last
  g : ∀ i x y, os[i]? = some x → os[i + 1]? = some y → x + 2 ≤ y
theorem Off.add {os : List Int} {last v : Int} (h : Off os last) (hv : 0 ≤ v) : Off (os ++ [last + 2 + v]) (last + 2 + v) := by
  have hl0 : 0 ≤ last := (h.b last (List.mem_of_getLast? h.l)).1
  refine ⟨by simp, fun o ho => ?_, fun i x y hx hy => ?_⟩
  · rcases List.mem_append.mp ho with ho | ho
    · have := h.b o ho
      omega
    · simp at ho
      omega
  · by_cases hi : i + 1 < os.length
    · rw [List.getElem?_append_left (by omega)] at hx
      rw [List.getElem?_append_left hi] at hy
      exact h.g i x y hx hy
    · have hlen : i + 1 < (os ++ [last + 2 + v]).length := (List.getElem?_eq_some_iff.mp hy).1
      rw [List.length_append] at hlen
      have e : i + 1 = os.length := by simp at hlen; omega
      rw [List.getElem?_append_right (by omega), e, Nat.sub_self] at hy
      have hy : last + 2 + v = y := by simpa using hy
      rw [List.getElem?_append_left (by omega)] at hx
      have := h.l
      rw [List.getLast?_eq_getElem?] at this
      have e2 : os.length - 1 = i := by omega
      rw [e2, hx] at this
      cases this
      omega
theorem off_loop (ns : List Int) {B : Sl} {far : Int} (hf : 0 < far) (hf2 : far ≤ 60) (xs : List PyData) : ∀ {os : List Int} {last : Int} (s4 : Sl) {rw : Ro}, Off os last → os.length + xs.length ≤ 10 → 0 ≤ rw.1 →
    ∃ os' last' s4' rw', forGo (gNm 4) (sApp 3 (m2 addD (m2 addD (mIxV 3 (m1 negD (mC (.int 1)))) (mC (.int 2))) (mCallR 0 (F__law_taken ns) (mCons (mVar 2) mNil)))) xs [.row, B, .vl (.dat (.int far)), .own (os.map .int), s4, .no, .no] rw =
      some (.nx [.row, B, .vl (.dat (.int far)), .own (os'.map .int), s4', .no, .no] rw') ∧ Off os' last' ∧ os'.length = os.length + xs.length ∧ last' ≤ last + 61 * xs.length ∧ 0 ≤ rw'.1 := by
  induction xs with
  | nil => intro os last s4 rw h _ hr; exact ⟨os, last, s4, rw, rfl, h, rfl, by simp, hr⟩
  | cons x xs ih =>
    intro os last s4 rw h hl hr
    rw [List.length_cons] at hl
    have hL : (os.map PyData.int).getLast? = some (.int last) := by rw [List.getLast?_map, h.l]; rfl
    have aL := atI_last hL
    have ixl : mIxV 3 (m1 negD (mC (.int 1))) [.row, B, .vl (.dat (.int far)), .own (os.map .int), .vl (.dat x), .no, .no] rw = some (.dat (.int last), rw) := by
      simp [mIxV, m1, negD, mC, bnd, opt, pur, aL]
    obtain ⟨v, rw1, e1, v0, v1, r1⟩ := draw (ns := ns) (i := 0) (ma := mCons (mVar 2) mNil) (ss := [.row, B, .vl (.dat (.int far)), .own (os.map .int), .vl (.dat x), .no, .no]) (rw := rw) rfl rfl hf hr
    have st := app_eq (i := 3) (ds := os.map .int) (d := .int (last + 2 + v)) (ss := [.row, B, .vl (.dat (.int far)), .own (os.map .int), .vl (.dat x), .no, .no]) rfl (m2_eq (g := addD) (m2_eq (g := addD) (n := mC (.int 2)) (z := .dat (.int (last + 2))) ixl rfl rfl) e1 rfl) (by rw [List.length_map]; omega)
    obtain ⟨os', last', s4', rw', e, h1, h2, h3, h4⟩ := ih (os := os ++ [last + 2 + v]) (.vl (.dat x)) (rw := rw1) (h.add v0) (by rw [List.length_append]; simp; omega) r1
    refine ⟨os', last', s4', rw', ?_, h1, by rw [h2, List.length_append, List.length_cons]; simp; omega, by rw [List.length_cons]; omega, h4⟩
    rw [forGo_step (ss1 := [.row, B, .vl (.dat (.int far)), .own (os.map .int), .vl (.dat x), .no, .no]) (by simp [gNm, putS]) st]
    have e2 : [.row, B, .vl (.dat (.int far)), .own (os.map .int), .vl (.dat x), .no, .no].set 3 (.own (os.map PyData.int ++ [.int (last + 2 + v)])) = [.row, B, .vl (.dat (.int far)), .own ((os ++ [last + 2 + v]).map .int), .vl (.dat x), .no, .no] := by
      rw [List.map_append]
      rfl
    rw [e2]
    exact e
theorem marks_val (ns : List Int) {many far : Int} (h1 : 1 ≤ many) (h3 : many ≤ 3) (hf : 0 < far) (hf2 : far ≤ 60) {rw : Ro} (h : 0 ≤ rw.1) : ∃ ms rw', F__law_marks ns [.dat (.int many), .dat (.int far)] rw = some (.dat (mkD ms), rw') ∧ MarksOk ms ∧ ms.length = many.toNat ∧ 0 ≤ rw'.1 := by
  have off0 : Off [0] 0 := ⟨rfl, fun o ho => by simp at ho; omega, fun i x y hx hy => by simp at hy⟩
  have src : mRg1 (m2 subD (mVar 1) (mC (.int 1))) [.row, .vl (.dat (.int many)), .vl (.dat (.int far)), .own [.int 0], .no, .no, .no] rw = some (rgD 0 (many - 1).toNat, rw) := by
    have h2 : (-1000000 : Int) ≤ many - 1 ∧ many - 1 ≤ 1000000 := by omega
    simp [mRg1, m2, subD, i2, subI, mVar, mC, bnd, opt, pur, h2]
  have lx : (rgD 0 (many - 1).toNat).length = (many - 1).toNat := by rw [rgD_map, List.length_map, List.length_range]
  obtain ⟨os, last, s4, rw1, e1, o1, o2, o3, r1⟩ := off_loop ns (B := .vl (.dat (.int many))) hf hf2 (rgD 0 (many - 1).toNat) (os := [0]) (last := 0) .no (rw := rw) off0 (by rw [lx]; simp; omega) h
  rw [lx] at o2 o3
  have hlen : os.length = many.toNat := by rw [o2]; simp; omega
  have hl0 : 0 ≤ last := (o1.b last (List.mem_of_getLast? o1.l)).1
  obtain ⟨b, rw2, e2, b1, b2, r2⟩ := tail_marks ns (A := .row) (B := .vl (.dat (.int many))) (C := .vl (.dat (.int far))) (s4 := s4) (s5 := .no) o1.l hl0 (by omega) (by omega) (fun o ho => o1.b o ho) r1
  refine ⟨os.map (b + ·), rw2, ?_, ⟨by rw [List.length_map]; omega, by rw [List.length_map]; omega, fun m hm => ?_, fun i x y hx hy => ?_⟩, by rw [List.length_map]; exact hlen, r2⟩
  · refine bodyR_rt rfl ?_
    refine (seq_nx (ss1 := [.row, .vl (.dat (.int many)), .vl (.dat (.int far)), .own [.int 0], .no, .no, .no]) (rw1 := rw) rfl).trans ?_
    refine (seq_nx ((for_eq src).trans e1)).trans ?_
    exact e2
  · obtain ⟨o, ho, rfl⟩ := List.mem_map.mp hm
    have := o1.b o ho
    omega
  · rw [List.getElem?_map] at hx hy
    cases qx : os[i]? with
    | none => rw [qx] at hx; cases hx
    | some p =>
      cases qy : os[i + 1]? with
      | none => rw [qy] at hy; cases hy
      | some q =>
        rw [qx] at hx
        rw [qy] at hy
        have hx : b + p = x := by simpa using hx
        have hy : b + q = y := by simpa using hy
        have := o1.g i p q qx qy
        omega
end Law
/-! Names; things, drawn. -/
namespace Law
open PySem L2 FL
abbrev alph : Str := Str.ofString "abcdefghijklmnopqrstuvwxyz"
def one (j : Nat) : Str := ⟨#[97 + j]⟩
theorem alph_at : ∀ j : Fin 26, alph.cps.toList[(j : Nat)]? = some (97 + (j : Nat)) := by decide +kernel
theorem alph_len : alph.length = 26 := by decide +kernel
theorem alph_ix {j : Nat} (h : j < 26) : ixD (.dat (.str alph)) (.dat (.int (j : Nat))) = some (.dat (.str (one j))) := by
  have e := atI_nat (alph_at ⟨j, h⟩)
  have hl : alph.length ≤ 100000 := by rw [alph_len]; decide
  unfold ixD
  simp only []
  rw [if_pos hl, e]
  rfl
def baseOf (t : Nat) : Str := ⟨((List.range 8).map fun k => 97 + (t + 7 * k) % 26).toArray⟩
theorem base_join : ∀ t : Fin 26, Txt.join (Str.ofString "") ((List.range 8).map fun k => one (((t : Nat) + 7 * k) % 26)) = baseOf t := by decide +kernel
theorem base_len : ∀ t : Fin 26, (baseOf t).length = 8 := by decide +kernel
def nameOf (t c : Nat) (w : Bool) (k : Nat) : Str := if w then cutS (baseOf t) none (some ((c : Int) + 1 + (k : Nat))) else cutS (baseOf t) none (some (c : Int)) ++ one ((t + 3 + 5 * k) % 26)
abbrev NameOk (z : Str) : Prop := 1 ≤ z.length ∧ z.length ≤ 8 ∧ ∀ c ∈ z.cps.toList, c ∈ alph.cps.toList
theorem name_ok : ∀ (t : Fin 26) (c : Fin 6) (w : Bool) (k : Fin 3), NameOk (nameOf t c w k) := by decide +kernel
theorem name_ne : ∀ (t : Fin 26) (c : Fin 6) (w : Bool) (k l : Fin 3), nameOf t c w k = nameOf t c w l → k = l := by decide +kernel
theorem cut_len : ∀ (t : Fin 26) (c : Fin 6), (cutS (baseOf t) none (some (c : Int))).length ≤ 8 := by decide +kernel
end Law
/-! Things, drawn. -/
namespace Law
open PySem L2 FL
structure HouseOk (ts : List Thing) : Prop where
  l1 : 1 ≤ ts.length
  l3 : ts.length ≤ 3
  mks : ∀ t ∈ ts, MarksOk t.2
  nm : ∀ t ∈ ts, NameOk t.1
  nd : (ts.map (·.1)).Nodup
theorem emod_nat (a : Nat) : ((a : Int) % 26) = ((a % 26 : Nat) : Int) := by omega
/-- base + sign, or the base's begin -/
theorem name_val {t : Fin 26} {c : Fin 6} {w : Bool} {k : Fin 3} (A B D E : Sl) (far : Vl) (own : List PyData) (s11 : Sl) (rw : Ro) :
    sSet 11 (m2 ixD (mList (mLst (mCons (m2 addD (mSl (mVar 4) mNone (mSome (mVar 5))) (mVar 10)) (mCons (mSl (mVar 4) mNone (mSome (m2 addD (m2 addD (mVar 5) (mC (.int 1))) (mVar 9)))) mNil)))) (m1 intD (mVar 6))) [A, B, D, E, .vl (.dat (.str (baseOf t))), .vl (.dat (.int ((c : Nat) : Int))), .vl (.dat (.bool w)), .vl far, .own own, .vl (.dat (.int ((k : Nat) : Int))), .vl (.dat (.str (one ((t + 3 + 5 * k) % 26)))), s11] rw =
      some (.nx [A, B, D, E, .vl (.dat (.str (baseOf t))), .vl (.dat (.int ((c : Nat) : Int))), .vl (.dat (.bool w)), .vl far, .own own, .vl (.dat (.int ((k : Nat) : Int))), .vl (.dat (.str (one ((t + 3 + 5 * k) % 26)))), .vl (.dat (.str (nameOf t c w k)))] rw) := by
  have hb : (baseOf t).length ≤ 100000 := by rw [base_len]; decide
  have hc := cut_len t c
  have ho : (one ((t + 3 + 5 * k) % 26)).length = 1 := rfl
  have hs : (cutS (baseOf t) none (some ((c : Nat) : Int))).length + (one ((t + 3 + 5 * k) % 26)).length ≤ 100000 := by rw [ho]; omega
  cases w
  · simp [sSet, m2, m1, mList, mLst, mCons, mNil, mVar, mC, mSl, mSome, mNone, bnd, opt, pur, dats, addD, intD, slD, ixD, hb, hs, atI_0, putS, nameOf]
  · simp [sSet, m2, m1, mList, mLst, mCons, mNil, mVar, mC, mSl, mSome, mNone, bnd, opt, pur, dats, addD, intD, slD, ixD, hb, hs, atI_1, putS, nameOf]
abbrev thBody (ns : List Int) : Sx := sSeq (sSet 10 (m2 ixD (mC (.str (PySem.Str.ofString "abcdefghijklmnopqrstuvwxyz"))) (m2 modD (m2 addD (m2 addD (mVar 3) (mC (.int 3))) (m2 mulD (mC (.int 5)) (mVar 9))) (mC (.int 26))))) (sSeq (sSet 11 (m2 ixD (mList (mLst (mCons (m2 addD (mSl (mVar 4) mNone (mSome (mVar 5))) (mVar 10)) (mCons (mSl (mVar 4) mNone (mSome (m2 addD (m2 addD (mVar 5) (mC (.int 1))) (mVar 9)))) mNil)))) (m1 intD (mVar 6)))) (sApp 8 (mTup (mCons (mVar 11) (mCons (mCallR 0 (F__law_marks ns) (mCons (m2 addD (mC (.int 1)) (mCallR 0 (F__law_taken ns) (mCons (mVar 2) mNil))) (mCons (mVar 7) mNil))) mNil)))))
theorem things_go (ns : List Int) {B : Sl} {long far : Int} (hlo : 0 < long) (hlo3 : long ≤ 3) (hf : 0 < far) (hf2 : far ≤ 60) {t : Fin 26} {c : Fin 6} {w : Bool} : ∀ (n k : Nat) (ts : List Thing) (s9 s10 s11 : Sl) (rw : Ro), k + n ≤ 3 → ts.map (·.1) = (List.range k).map (nameOf t c w) → (∀ z ∈ ts, MarksOk z.2) → 0 ≤ rw.1 →
    ∃ (ts' : List Thing) (s9' s10' s11' : Sl) (rw' : Ro), forGo (gNm 9) (thBody ns) ((List.range' k n).map fun i => .int (i : Nat)) [.row, B, .vl (.dat (.int long)), .vl (.dat (.int ((t : Nat) : Int))), .vl (.dat (.str (baseOf t))), .vl (.dat (.int ((c : Nat) : Int))), .vl (.dat (.bool w)), .vl (.dat (.int far)), .own (ts.map thD), s9, s10, s11] rw =
      some (.nx [.row, B, .vl (.dat (.int long)), .vl (.dat (.int ((t : Nat) : Int))), .vl (.dat (.str (baseOf t))), .vl (.dat (.int ((c : Nat) : Int))), .vl (.dat (.bool w)), .vl (.dat (.int far)), .own (ts'.map thD), s9', s10', s11'] rw') ∧
      ts'.map (·.1) = (List.range (k + n)).map (nameOf t c w) ∧ (∀ z ∈ ts', MarksOk z.2) ∧ 0 ≤ rw'.1 := by
  intro n
  induction n with
  | zero => intro k ts s9 s10 s11 rw _ h1 h2 h3; exact ⟨ts, s9, s10, s11, rw, rfl, h1, h2, h3⟩
  | succ n ih =>
    intro k ts s9 s10 s11 rw hk h1 h2 h3
    let K : Fin 3 := ⟨k, by omega⟩
    have hlen : ts.length = k := by
      have := congrArg List.length h1
      simpa using this
    -- the sign
    have st1 : sSet 10 (m2 ixD (mC (.str (PySem.Str.ofString "abcdefghijklmnopqrstuvwxyz"))) (m2 modD (m2 addD (m2 addD (mVar 3) (mC (.int 3))) (m2 mulD (mC (.int 5)) (mVar 9))) (mC (.int 26)))) [.row, B, .vl (.dat (.int long)), .vl (.dat (.int ((t : Nat) : Int))), .vl (.dat (.str (baseOf t))), .vl (.dat (.int ((c : Nat) : Int))), .vl (.dat (.bool w)), .vl (.dat (.int far)), .own (ts.map thD), .vl (.dat (.int ((K : Nat) : Int))), s10, s11] rw =
        some (.nx [.row, B, .vl (.dat (.int long)), .vl (.dat (.int ((t : Nat) : Int))), .vl (.dat (.str (baseOf t))), .vl (.dat (.int ((c : Nat) : Int))), .vl (.dat (.bool w)), .vl (.dat (.int far)), .own (ts.map thD), .vl (.dat (.int ((K : Nat) : Int))), .vl (.dat (.str (one ((t + 3 + 5 * K) % 26)))), s11] rw) := by
      have e : ((((t : Nat) : Int) + 3 + 5 * ((K : Nat) : Int)) % 26) = (((t + 3 + 5 * K) % 26 : Nat) : Int) := by omega
      have ax := alph_ix (j := (t + 3 + 5 * K) % 26) (Nat.mod_lt _ (by decide))
      have hm : mulD (.dat (.int 5)) (.dat (.int ((K : Nat) : Int))) = some (.dat (.int (5 * ((K : Nat) : Int)))) := by
        unfold mulD
        simp only []
        rw [if_pos (.inl (by decide))]
      have hd : modD (.dat (.int (((t : Nat) : Int) + 3 + 5 * ((K : Nat) : Int)))) (.dat (.int 26)) = some (.dat (.int (((t + 3 + 5 * K) % 26 : Nat) : Int))) := by
        unfold modD i2 modI
        simp only []
        rw [if_pos (by decide), e]
      exact set_eq (m2_eq (g := ixD) (y := .dat (.int (((t + 3 + 5 * K) % 26 : Nat) : Int))) rfl (m2_eq (g := modD) (m2_eq (g := addD) (m2_eq (g := addD) (m := mVar 3) (n := mC (.int 3)) rfl rfl rfl) (m2_eq (g := mulD) (m := mC (.int 5)) (n := mVar 9) rfl rfl hm) rfl) rfl hd) ax) (by simp)
    have st2 := name_val (t := t) (c := c) (w := w) (k := K) .row B (.vl (.dat (.int long))) (.vl (.dat (.int ((t : Nat) : Int)))) (.dat (.int far)) (ts.map thD) s11 rw
    -- the marks
    obtain ⟨v, rw1, e1, v0, v1, r1⟩ := draw (ns := ns) (i := 0) (ma := mCons (mVar 2) mNil) (ss := [.row, B, .vl (.dat (.int long)), .vl (.dat (.int ((t : Nat) : Int))), .vl (.dat (.str (baseOf t))), .vl (.dat (.int ((c : Nat) : Int))), .vl (.dat (.bool w)), .vl (.dat (.int far)), .own (ts.map thD), .vl (.dat (.int ((K : Nat) : Int))), .vl (.dat (.str (one ((t + 3 + 5 * K) % 26)))), .vl (.dat (.str (nameOf t c w K)))]) (rw := rw) rfl rfl hlo h3
    obtain ⟨ms, rw2, e2, m2', m3, r2⟩ := marks_val ns (many := 1 + v) (far := far) (by omega) (by omega) hf hf2 r1
    have st3 := app_eq (i := 8) (ds := ts.map thD) (d := thD (nameOf t c w K, ms)) (m := mTup (mCons (mVar 11) (mCons (mCallR 0 (F__law_marks ns) (mCons (m2 addD (mC (.int 1)) (mCallR 0 (F__law_taken ns) (mCons (mVar 2) mNil))) (mCons (mVar 7) mNil))) mNil))) (ss := [.row, B, .vl (.dat (.int long)), .vl (.dat (.int ((t : Nat) : Int))), .vl (.dat (.str (baseOf t))), .vl (.dat (.int ((c : Nat) : Int))), .vl (.dat (.bool w)), .vl (.dat (.int far)), .own (ts.map thD), .vl (.dat (.int ((K : Nat) : Int))), .vl (.dat (.str (one ((t + 3 + 5 * K) % 26)))), .vl (.dat (.str (nameOf t c w K)))]) (rw := rw) (rw1 := rw2) rfl (by
      have q := cons_eq (m := mVar 11) (ss := [.row, B, .vl (.dat (.int long)), .vl (.dat (.int ((t : Nat) : Int))), .vl (.dat (.str (baseOf t))), .vl (.dat (.int ((c : Nat) : Int))), .vl (.dat (.bool w)), .vl (.dat (.int far)), .own (ts.map thD), .vl (.dat (.int ((K : Nat) : Int))), .vl (.dat (.str (one ((t + 3 + 5 * K) % 26)))), .vl (.dat (.str (nameOf t c w K)))]) (rw := rw) rfl (cons_eq (callR_eq (i := 0) (F := F__law_marks ns) rfl (cons_eq (m2_eq (g := addD) (m := mC (.int 1)) rfl e1 rfl) (cons_eq (m := mVar 7) rfl (show mNil _ rw1 = some ([], rw1) from rfl))) e2) (show mNil _ rw2 = some ([], rw2) from rfl))
      unfold mTup bnd
      rw [q]
      rfl) (by rw [List.length_map]; omega)
    obtain ⟨ts', s9', s10', s11', rw', e, f1, f2, f3⟩ := ih (k + 1) (ts ++ [(nameOf t c w K, ms)]) (.vl (.dat (.int ((K : Nat) : Int)))) (.vl (.dat (.str (one ((t + 3 + 5 * K) % 26))))) (.vl (.dat (.str (nameOf t c w K)))) rw2 (by omega) (by rw [List.map_append, h1, List.range_succ, List.map_append]; rfl) (fun z hz => by
      rcases List.mem_append.mp hz with hz | hz
      · exact h2 z hz
      · simp at hz; subst hz; exact m2') r2
    refine ⟨ts', s9', s10', s11', rw', ?_, by rw [f1, Nat.add_assoc, Nat.add_comm 1 n], f2, f3⟩
    rw [List.range'_succ, List.map_cons, forGo_step (ss1 := [.row, B, .vl (.dat (.int long)), .vl (.dat (.int ((t : Nat) : Int))), .vl (.dat (.str (baseOf t))), .vl (.dat (.int ((c : Nat) : Int))), .vl (.dat (.bool w)), .vl (.dat (.int far)), .own (ts.map thD), .vl (.dat (.int ((K : Nat) : Int))), s10, s11]) (by simp [gNm, putS, K]) ((seq_nx st1).trans ((seq_nx st2).trans st3))]
    have e9 : (ts.map thD ++ [thD (nameOf t c w K, ms)]) = (ts ++ [(nameOf t c w K, ms)]).map thD := by rw [List.map_append]; rfl
    rw [e9]
    exact e
end Law
/-! A house's things, drawn, whole; is_name, are_marks, check_things. -/
namespace Law
open PySem L2 FL
theorem strs_of : ∀ ys : List Str, strs? (ys.map PyData.str) = some ys
  | [] => rfl
  | y :: ys => by
    rw [List.map_cons]
    unfold strs?
    rw [strs_of ys]
theorem base_sum : ∀ t : Fin 26, ((((List.range 8).map fun k => one (((t : Nat) + 7 * k) % 26)).map (·.length)).sum + ((List.range 8).map fun k => one (((t : Nat) + 7 * k) % 26)).length * (Str.ofString "").length) ≤ 100000 := by decide +kernel
theorem base_val {t : Fin 26} (A B D S5 S6 S7 S8 S10 S11 : Sl) (rw : Ro) : m2 joinD (mC (.str (PySem.Str.ofString ""))) (mList (mLc [9] (mRg1 (mC (.int 8))) (gNm 9) mYes (m2 ixD (mC (.str (PySem.Str.ofString "abcdefghijklmnopqrstuvwxyz"))) (m2 modD (m2 addD (mVar 3) (m2 mulD (mC (.int 7)) (mVar 9))) (mC (.int 26)))))) [A, B, D, .vl (.dat (.int ((t : Nat) : Int))), .no, S5, S6, S7, S8, .no, S10, S11] rw = some (.dat (.str (baseOf t)), rw) := by
  have go := lcGo_map (g := gNm 9) (tt := mYes) (te := m2 ixD (mC (.str (PySem.Str.ofString "abcdefghijklmnopqrstuvwxyz"))) (m2 modD (m2 addD (mVar 3) (m2 mulD (mC (.int 7)) (mVar 9))) (mC (.int 26)))) (ss := [A, B, D, .vl (.dat (.int ((t : Nat) : Int))), .no, S5, S6, S7, S8, .no, S10, S11]) (rw := rw) (fun i : Nat => .int i) (fun i : Nat => .str (one (((t : Nat) + 7 * i) % 26))) (fun _ => true) (List.range 8) fun i _ => by
    refine ⟨[A, B, D, .vl (.dat (.int ((t : Nat) : Int))), .no, S5, S6, S7, S8, .vl (.dat (.int (i : Nat))), S10, S11], by simp [gNm, putS], rfl, fun _ => ?_⟩
    have e : ((((t : Nat) : Int) + 7 * (i : Int)) % 26) = ((((t : Nat) + 7 * i) % 26 : Nat) : Int) := by omega
    have ax := alph_ix (j := ((t : Nat) + 7 * i) % 26) (Nat.mod_lt _ (by decide))
    have hm : mulD (.dat (.int 7)) (.dat (.int (i : Int))) = some (.dat (.int (7 * (i : Int)))) := by
      unfold mulD
      simp only []
      rw [if_pos (.inl (by decide))]
    have hd : modD (.dat (.int (((t : Nat) : Int) + 7 * (i : Int)))) (.dat (.int 26)) = some (.dat (.int ((((t : Nat) + 7 * i) % 26 : Nat) : Int))) := by
      unfold modD i2 modI
      simp only []
      rw [if_pos (by decide), e]
    exact m2_eq (g := ixD) rfl (m2_eq (g := modD) (m2_eq (g := addD) (m := mVar 3) rfl (m2_eq (g := mulD) (m := mC (.int 7)) (n := mVar 9) rfl rfl hm) rfl) rfl hd) ax
  rw [List.filter_eq_self.mpr (fun _ _ => rfl)] at go
  have src : mRg1 (mC (.int 8)) [A, B, D, .vl (.dat (.int ((t : Nat) : Int))), .no, S5, S6, S7, S8, .no, S10, S11] rw = some ((List.range 8).map (fun i : Nat => PyData.int i), rw) := by
    have : mRg1 (mC (.int 8)) [A, B, D, .vl (.dat (.int ((t : Nat) : Int))), .no, S5, S6, S7, S8, .no, S10, S11] rw = some (rgD 0 8, rw) := rfl
    rw [this, rgD_map]
  have lc := (lc_eq (vs := [9]) (g := gNm 9) (tt := mYes) (te := m2 ixD (mC (.str (PySem.Str.ofString "abcdefghijklmnopqrstuvwxyz"))) (m2 modD (m2 addD (mVar 3) (m2 mulD (mC (.int 7)) (mVar 9))) (mC (.int 26)))) (by simp [noOwn]) src (by simp)).trans go
  refine m2_eq (g := joinD) rfl (list_eq lc) ?_
  have e1 : ((List.range 8).map fun i : Nat => PyData.str (one (((t : Nat) + 7 * i) % 26))) = ((List.range 8).map fun k => one (((t : Nat) + 7 * k) % 26)).map PyData.str := by rw [List.map_map]; rfl
  rw [e1]
  unfold joinD
  simp only [strs_of]
  rw [if_pos (base_sum t), base_join t]
theorem things_val (ns : List Int) {most long : Int} (h1 : 0 < most) (h2 : most ≤ 3) (h3 : 0 < long) (h4 : long ≤ 3) {rw : Ro} (h : 0 ≤ rw.1) : ∃ ts rw', F__law_things ns [.dat (.int most), .dat (.int long)] rw = some (.dat (thsD ts), rw') ∧ HouseOk ts ∧ ((ts.length : Int) ≤ most) ∧ 0 ≤ rw'.1 := by
  -- turn
  obtain ⟨a, rw1, e1, a0, a1, r1⟩ := draw (ns := ns) (i := 0) (ma := mCons (mC (.int 26)) mNil) (ss := [.row, .vl (.dat (.int most)), .vl (.dat (.int long)), .no, .no, .no, .no, .no, .no, .no, .no, .no]) (rw := rw) rfl rfl (by decide) h
  obtain ⟨t, rfl⟩ : ∃ t : Fin 26, a = ((t : Nat) : Int) := ⟨⟨a.toNat, by omega⟩, by simp; omega⟩
  have st1 := set_eq (i := 3) e1 (by simp)
  have st2 := set_eq (i := 4) (base_val (t := t) .row (.vl (.dat (.int most))) (.vl (.dat (.int long))) .no .no .no .no .no .no rw1) (by simp)
  -- cut
  obtain ⟨b, rw2, e2, b0, b1, r2⟩ := draw (ns := ns) (i := 0) (ma := mCons (mC (.int 6)) mNil) (ss := [.row, .vl (.dat (.int most)), .vl (.dat (.int long)), .vl (.dat (.int ((t : Nat) : Int))), .vl (.dat (.str (baseOf t))), .no, .no, .no, .no, .no, .no, .no]) (rw := rw1) rfl rfl (by decide) r1
  obtain ⟨c, rfl⟩ : ∃ c : Fin 6, b = ((c : Nat) : Int) := ⟨⟨b.toNat, by omega⟩, by simp; omega⟩
  have st3 := set_eq (i := 5) e2 (by simp)
  -- within
  obtain ⟨d, rw3, e3, d0, d1, r3⟩ := draw (ns := ns) (i := 0) (ma := mCons (mC (.int 3)) mNil) (ss := [.row, .vl (.dat (.int most)), .vl (.dat (.int long)), .vl (.dat (.int ((t : Nat) : Int))), .vl (.dat (.str (baseOf t))), .vl (.dat (.int ((c : Nat) : Int))), .no, .no, .no, .no, .no, .no]) (rw := rw2) rfl rfl (by decide) r2
  have st4 := set_eq (i := 6) (m2_eq (g := eqD) (n := mC (.int 2)) (z := .dat (.bool (decide (d = 2)))) e3 rfl (by unfold eqD; simp only [eq_int])) (by simp)
  -- far
  obtain ⟨u, rw4, e4, u0, u1, r4⟩ := draw (ns := ns) (i := 0) (ma := mCons (mC (.int 3)) mNil) (ss := [.row, .vl (.dat (.int most)), .vl (.dat (.int long)), .vl (.dat (.int ((t : Nat) : Int))), .vl (.dat (.str (baseOf t))), .vl (.dat (.int ((c : Nat) : Int))), .vl (.dat (.bool (decide (d = 2)))), .no, .no, .no, .no, .no]) (rw := rw3) rfl rfl (by decide) r3
  obtain ⟨far, hfar, f0, f1⟩ : ∃ far, ixD (.dat (.list [.int 1, .int 4, .int 60])) (.dat (.int u)) = some (.dat (.int far)) ∧ 0 < far ∧ far ≤ 60 := by
    have hu : u = 0 ∨ u = 1 ∨ u = 2 := by omega
    rcases hu with rfl | rfl | rfl
    · exact ⟨1, by simp [ixD, atI_0], by decide, by decide⟩
    · exact ⟨4, by simp [ixD, atI_1], by decide, by decide⟩
    · exact ⟨60, by simp [ixD, atI_2], by decide, by decide⟩
  have st5 := set_eq (i := 7) (m2_eq (g := ixD) (m := mList (mLst (mCons (mC (.int 1)) (mCons (mC (.int 4)) (mCons (mC (.int 60)) mNil))))) rfl e4 hfar) (by simp)
  -- how many
  obtain ⟨q, rw5, e5, q0, q1, r5⟩ := draw (ns := ns) (i := 0) (ma := mCons (mVar 1) mNil) (ss := [.row, .vl (.dat (.int most)), .vl (.dat (.int long)), .vl (.dat (.int ((t : Nat) : Int))), .vl (.dat (.str (baseOf t))), .vl (.dat (.int ((c : Nat) : Int))), .vl (.dat (.bool (decide (d = 2)))), .vl (.dat (.int far)), .own [], .no, .no, .no]) (rw := rw4) rfl rfl h1 r4
  have src : mRg1 (m2 addD (mC (.int 1)) (mCallR 0 (F__law_taken ns) (mCons (mVar 1) mNil))) [.row, .vl (.dat (.int most)), .vl (.dat (.int long)), .vl (.dat (.int ((t : Nat) : Int))), .vl (.dat (.str (baseOf t))), .vl (.dat (.int ((c : Nat) : Int))), .vl (.dat (.bool (decide (d = 2)))), .vl (.dat (.int far)), .own [], .no, .no, .no] rw4 = some ((List.range' 0 (q.toNat + 1)).map fun i => PyData.int (i : Nat), rw5) := by
    have e : m2 addD (mC (.int 1)) (mCallR 0 (F__law_taken ns) (mCons (mVar 1) mNil)) [.row, .vl (.dat (.int most)), .vl (.dat (.int long)), .vl (.dat (.int ((t : Nat) : Int))), .vl (.dat (.str (baseOf t))), .vl (.dat (.int ((c : Nat) : Int))), .vl (.dat (.bool (decide (d = 2)))), .vl (.dat (.int far)), .own [], .no, .no, .no] rw4 = some (.dat (.int (1 + q)), rw5) := m2_eq (g := addD) (m := mC (.int 1)) rfl e5 rfl
    have h6 : (-1000000 : Int) ≤ 1 + q ∧ 1 + q ≤ 1000000 := by omega
    have h7 : (1 + q).toNat = q.toNat + 1 := by omega
    unfold mRg1 bnd
    rw [e]
    simp only []
    rw [if_pos h6, h7, rgD_map, List.range_eq_range']
    rfl
  obtain ⟨ts, s9, s10, s11, rw6, e6, g1, g2, r6⟩ := things_go ns (B := .vl (.dat (.int most))) h3 h4 f0 f1 (t := t) (c := c) (w := decide (d = 2)) (q.toNat + 1) 0 [] .no .no .no rw5 (by omega) rfl (fun z hz => by cases hz) r5
  rw [Nat.zero_add] at g1
  have hlen : ts.length = q.toNat + 1 := by
    have := congrArg List.length g1
    simpa using this
  refine ⟨ts, rw6, ?_, ⟨by omega, by omega, g2, fun z hz => ?_, ?_⟩, by omega, r6⟩
  · refine bodyR_rl rfl ?_
    refine (seq_nx st1).trans ((seq_nx st2).trans ((seq_nx st3).trans ((seq_nx st4).trans ((seq_nx st5).trans ((seq_nx (ss1 := [.row, .vl (.dat (.int most)), .vl (.dat (.int long)), .vl (.dat (.int ((t : Nat) : Int))), .vl (.dat (.str (baseOf t))), .vl (.dat (.int ((c : Nat) : Int))), .vl (.dat (.bool (decide (d = 2)))), .vl (.dat (.int far)), .own [], .no, .no, .no]) (rw1 := rw4) rfl).trans ((seq_nx ((for_eq src).trans e6)).trans rfl))))))
  · have : z.1 ∈ ts.map (·.1) := List.mem_map_of_mem hz
    rw [g1, List.mem_map] at this
    obtain ⟨k, hk, e⟩ := this
    rw [List.mem_range] at hk
    rw [← e]
    exact name_ok t c _ ⟨k, by omega⟩
  · rw [g1]
    have inj : ∀ (n : Nat), n ≤ 3 → ((List.range n).map (nameOf t c (decide (d = 2)))).Nodup := fun n hn => by
      refine (List.pairwise_map.mpr ?_)
      refine List.Pairwise.imp_of_mem ?_ List.nodup_range
      intro x y hx hy hxy he
      rw [List.mem_range] at hx hy
      have := name_ne t c (decide (d = 2)) ⟨x, by omega⟩ ⟨y, by omega⟩ he
      exact hxy (Fin.mk.inj this)
    exact inj _ (by omega)
end Law
/-! Ties, drawn. -/
namespace Law
open PySem L2 FL
theorem tup_eq {ma : Mx (List Vl)} {ss : List Sl} {rw rw1 : Ro} {xs : List Vl} {ds : List PyData} (h1 : ma ss rw = some (xs, rw1)) (h2 : dats xs = some ds) (h3 : ds.length ≤ 100000) : mTup ma ss rw = some (.dat (.tuple ds), rw1) := by
  unfold mTup bnd opt
  rw [h1]
  simp only []
  rw [h2]
  simp only []
  rw [if_pos h3]
theorem nil_eq {ss : List Sl} {rw : Ro} : mNil ss rw = some ([], rw) := rfl
def restOf (n o : Nat) : List Nat := (List.range n).filter fun k => decide (k ≠ o)
theorem rest_mem {n o k : Nat} (h : k ∈ restOf n o) : k < n ∧ k ≠ o := by
  unfold restOf at h
  rw [List.mem_filter, List.mem_range] at h
  exact ⟨h.1, by simpa using h.2⟩
theorem ints_ints (xs : List Nat) : (xs.map fun k : Nat => PyData.int k) = (xs.map fun k : Nat => (k : Int)).map PyData.int := by rw [List.map_map]; rfl
theorem ne_rest (xs : List Nat) : neD (.dat (.list (xs.map fun k : Nat => PyData.int k))) (.dat (.list [])) = some (.dat (.bool (!xs.isEmpty))) := by
  unfold neD
  simp only []
  rw [ints_ints, ne_nil]
  cases xs <;> rfl
theorem ths_at {ts : List Thing} {i : Nat} {t : Thing} (h : ts[i]? = some t) : ixD (.dat (thsD ts)) (.dat (.int (i : Nat))) = some (.dat (thD t)) := by
  unfold ixD thsD
  simp only []
  rw [atI_mapD thD h]
theorem th_marks (t : Thing) : ixD (.dat (thD t)) (.dat (.int 1)) = some (.dat (mkD t.2)) := by
  unfold ixD thD
  simp only []
  rw [atI_1]
theorem len_marks (ms : List Int) : lenD (.dat (mkD ms)) = some (.dat (.int (ms.length : Nat))) := by
  unfold lenD mkD
  simp only [List.length_map]
theorem len_ths (ts : List Thing) : lenD (.dat (thsD ts)) = some (.dat (.int (ts.length : Nat))) := by
  unfold lenD thsD
  simp only [List.length_map]
theorem tie_val (ns : List Int) {ts : List Thing} (h1 : 1 ≤ ts.length) (h3 : ts.length ≤ 3) (hm : Marked ts) {rw : Ro} (h : 0 ≤ rw.1) : ∃ t rw', F__law_tie ns [.dat (thsD ts)] rw = some (.dat (tieD t), rw') ∧ TieOk ts t ∧ 0 ≤ rw'.1 := by
  let T : Sl := .vl (.dat (thsD ts))
  -- one
  obtain ⟨a, rw1, e1, a0, a1, r1⟩ := draw (ns := ns) (i := 0) (ma := mCons (m1 lenD (mVar 1)) mNil) (ss := [.row, T, .no, .no, .no, .no, .no]) (rw := rw) rfl (cons_eq (m1_eq (g := lenD) (m := mVar 1) rfl (len_ths ts)) nil_eq) (by omega) h
  obtain ⟨o, rfl⟩ : ∃ o : Nat, a = (o : Int) := ⟨a.toNat, by omega⟩
  have ho : o < ts.length := by omega
  have st1 := set_eq (i := 2) e1 (by simp)
  -- rest
  have src : mRg1 (m1 lenD (mVar 1)) [.row, T, .vl (.dat (.int (o : Int))), .no, .no, .no, .no] rw1 = some ((List.range ts.length).map (fun i : Nat => PyData.int i), rw1) := by
    have h2 : (-1000000 : Int) ≤ (ts.length : Int) ∧ (ts.length : Int) ≤ 1000000 := by omega
    have e := m1_eq (g := lenD) (m := mVar 1) (ss := [.row, T, .vl (.dat (.int (o : Int))), .no, .no, .no, .no]) (rw := rw1) rfl (len_ths ts)
    unfold mRg1 bnd
    rw [e]
    simp only []
    rw [if_pos h2, Int.toNat_natCast, rgD_map]
    rfl
  have go := lcGo_map (g := gNm 6) (tt := mTst (m2 neD (mVar 6) (mVar 2))) (te := mVar 6) (ss := [.row, T, .vl (.dat (.int (o : Int))), .no, .no, .no, .no]) (rw := rw1) (fun i : Nat => PyData.int i) (fun i : Nat => PyData.int i) (fun k => decide (k ≠ o)) (List.range ts.length) fun i _ => by
    refine ⟨[.row, T, .vl (.dat (.int (o : Int))), .no, .no, .no, .vl (.dat (.int (i : Nat)))], rfl, tst_eq (m2_eq (g := neD) (m := mVar 6) (n := mVar 2) rfl rfl ?_), fun _ => rfl⟩
    unfold neD
    simp only [eq_int]
    by_cases q : i = o
    · subst q; simp
    · have : ¬ ((i : Int) = (o : Int)) := by omega
      simp [q, this]
  have st2 := set_eq (i := 3) (list_eq ((lc_eq (vs := [6]) (g := gNm 6) (tt := mTst (m2 neD (mVar 6) (mVar 2))) (te := mVar 6) rfl src (by rw [List.length_map, List.length_range]; omega)).trans go)) (by simp)
  have hrest : (List.range ts.length).filter (fun k => decide (k ≠ o)) = restOf ts.length o := rfl
  rw [hrest] at st2
  -- way
  obtain ⟨most, hmost, w3, w8⟩ : ∃ most : Int, (mCons (m2 ixD (mList (mLst (mCons (mC (.int 3)) (mCons (mC (.int 8)) mNil)))) (m1 intD (m2 neD (mVar 3) (mList (mLst mNil))))) mNil) [.row, T, .vl (.dat (.int (o : Int))), .vl (.dat (.list ((restOf ts.length o).map fun i : Nat => PyData.int i))), .no, .no, .no] rw1 = some ([.dat (.int most)], rw1) ∧ 3 ≤ most ∧ (most = 3 ∨ most = 8 ∧ restOf ts.length o ≠ []) := by
    have n1 := m2_eq (g := neD) (m := mVar 3) (n := mList (mLst mNil)) (ss := [.row, T, .vl (.dat (.int (o : Int))), .vl (.dat (.list ((restOf ts.length o).map fun i : Nat => PyData.int i))), .no, .no, .no]) (rw := rw1) rfl rfl (ne_rest (restOf ts.length o))
    cases q : (restOf ts.length o) with
    | nil =>
      rw [q] at n1
      exact ⟨3, cons_eq (m2_eq (g := ixD) (m := mList (mLst (mCons (mC (.int 3)) (mCons (mC (.int 8)) mNil)))) (y := .dat (.int 0)) rfl (m1_eq (g := intD) n1 rfl) (by simp [ixD, atI_0])) nil_eq, by decide, .inl rfl⟩
    | cons x xs =>
      rw [q] at n1
      exact ⟨8, cons_eq (m2_eq (g := ixD) (m := mList (mLst (mCons (mC (.int 3)) (mCons (mC (.int 8)) mNil)))) (y := .dat (.int 1)) rfl (m1_eq (g := intD) n1 rfl) (by simp [ixD, atI_1])) nil_eq, by decide, .inr ⟨rfl, by simp⟩⟩
  obtain ⟨w, rw2, e2, w0, w1, r2⟩ := draw (ns := ns) (i := 0) rfl hmost (by omega) r1
  have st3 := set_eq (i := 4) e2 (by simp)
  let S : Int → Sl → List Sl := fun w s5 => [.row, T, .vl (.dat (.int (o : Int))), .vl (.dat (.list ((restOf ts.length o).map fun i : Nat => PyData.int i))), .vl (.dat (.int w)), s5, .no]
  have w_eq : ∀ (n : Int) (s5 : Sl) (rw : Ro), mTst (m2 eqD (mVar 4) (mC (.int n))) (S w s5) rw = some (decide (w = n), rw) := fun n s5 rw => tst_eq (m2_eq (g := eqD) (m := mVar 4) (n := mC (.int n)) rfl rfl (by unfold eqD; simp only [eq_int]))
  have w_lt : ∀ (n : Int) (s5 : Sl) (rw : Ro), mTst (m2 ltD (mVar 4) (mC (.int n))) (S w s5) rw = some (decide (w < n), rw) := fun n s5 rw => tst_eq (m2_eq (g := ltD) (m := mVar 4) (n := mC (.int n)) rfl rfl rfl)
  have start : ∀ {b : Sx} {x : Option Ou}, b (S w .no) rw2 = x → sSeq (sSet 2 (mCallR 0 (F__law_taken ns) (mCons (m1 lenD (mVar 1)) mNil))) (sSeq (sSet 3 (mList (mLc [6] (mRg1 (m1 lenD (mVar 1))) (gNm 6) (mTst (m2 neD (mVar 6) (mVar 2))) (mVar 6)))) (sSeq (sSet 4 (mCallR 0 (F__law_taken ns) (mCons (m2 ixD (mList (mLst (mCons (mC (.int 3)) (mCons (mC (.int 8)) mNil)))) (m1 intD (m2 neD (mVar 3) (mList (mLst mNil))))) mNil))) b)) [.row, T, .no, .no, .no, .no, .no] rw = x := fun {b x} hb => (seq_nx st1).trans ((seq_nx st2).trans ((seq_nx st3).trans hb))
  have hmk : ∀ {i : Nat} {t : Thing}, ts[i]? = some t → 1 ≤ t.2.length := fun {i t} hi => (hm t (List.mem_of_getElem? hi)).1
  by_cases c0 : w = 0
  · -- rate
    subst c0
    obtain ⟨b, rw3, e3, b0, b1, r3⟩ := draw (ns := ns) (i := 0) (ma := mCons (m1 lenD (mVar 1)) mNil) (ss := S 0 .no) (rw := rw2) rfl (cons_eq (m1_eq (g := lenD) (m := mVar 1) rfl (len_ths ts)) nil_eq) (by omega) r2
    obtain ⟨j, rfl⟩ : ∃ j : Nat, b = (j : Int) := ⟨b.toNat, by omega⟩
    have hj : j < ts.length := by omega
    obtain ⟨t, ht⟩ : ∃ t, ts[j]? = some t := ⟨_, List.getElem?_eq_getElem hj⟩
    have am : (mCons (m1 lenD (m2 ixD (m2 ixD (mVar 1) (mVar 5)) (mC (.int 1)))) mNil) (S 0 (.vl (.dat (.int (j : Int))))) rw3 = some ([.dat (.int (t.2.length : Nat))], rw3) := cons_eq (m1_eq (g := lenD) (m2_eq (g := ixD) (n := mC (.int 1)) (m2_eq (g := ixD) (m := mVar 1) (n := mVar 5) rfl rfl (ths_at ht)) rfl (th_marks t)) (len_marks t.2)) nil_eq
    obtain ⟨d, rw4, e4, d0, d1, r4⟩ := draw (ns := ns) (i := 0) rfl am (by have := hmk ht; omega) r3
    obtain ⟨m, rfl⟩ : ∃ m : Nat, d = (m : Int) := ⟨d.toNat, by omega⟩
    refine ⟨.rate o j m, rw4, ?_, ⟨ho, t, ht, by omega⟩, r4⟩
    refine bodyR_rt rfl (start ?_)
    refine seq_rt ((ifT (by rw [w_eq]; rfl)).trans ((seq_nx (set_eq (i := 5) e3 (by simp [S]))).trans (ret_eq ?_)))
    exact tup_eq (cons_eq (m := mC (.str (PySem.Str.ofString "rate"))) rfl (cons_eq (m := mVar 2) rfl (cons_eq (m := mVar 5) rfl (cons_eq e4 nil_eq)))) rfl (show (4 : Nat) ≤ 100000 by decide)
  · by_cases c3 : w < 3
    · -- under, over
      obtain ⟨t, ht⟩ : ∃ t, ts[o]? = some t := ⟨_, List.getElem?_eq_getElem ho⟩
      have am : (mCons (m1 lenD (m2 ixD (m2 ixD (mVar 1) (mVar 2)) (mC (.int 1)))) mNil) (S w .no) rw2 = some ([.dat (.int (t.2.length : Nat))], rw2) := cons_eq (m1_eq (g := lenD) (m2_eq (g := ixD) (n := mC (.int 1)) (m2_eq (g := ixD) (m := mVar 1) (n := mVar 2) rfl rfl (ths_at ht)) rfl (th_marks t)) (len_marks t.2)) nil_eq
      obtain ⟨d, rw4, e4, d0, d1, r4⟩ := draw (ns := ns) (i := 0) rfl am (by have := hmk ht; omega) r2
      obtain ⟨m, rfl⟩ : ∃ m : Nat, d = (m : Int) := ⟨d.toNat, by omega⟩
      refine ⟨.edge (decide (w = 2)) o m, rw4, ?_, ⟨t, ht, by omega⟩, r4⟩
      refine bodyR_rt rfl (start ?_)
      refine (seq_nx ((ifF (by rw [w_eq, decide_eq_false c0])).trans rfl)).trans ?_
      refine seq_rt ((ifT (by rw [w_lt, decide_eq_true c3])).trans (ret_eq ?_))
      have hw : w = 1 ∨ w = 2 := by omega
      rcases hw with rfl | rfl
      · exact tup_eq (cons_eq (m2_eq (g := ixD) (m := mList (mLst (mCons (mC (.str (PySem.Str.ofString "under"))) (mCons (mC (.str (PySem.Str.ofString "over"))) mNil)))) (n := m2 subD (mVar 4) (mC (.int 1))) (z := .dat (.str (PySem.Str.ofString "under"))) (y := .dat (.int 0)) rfl rfl (by simp [ixD, atI_0])) (cons_eq (m := mVar 2) rfl (cons_eq e4 nil_eq))) rfl (show (3 : Nat) ≤ 100000 by decide)
      · exact tup_eq (cons_eq (m2_eq (g := ixD) (m := mList (mLst (mCons (mC (.str (PySem.Str.ofString "under"))) (mCons (mC (.str (PySem.Str.ofString "over"))) mNil)))) (n := m2 subD (mVar 4) (mC (.int 1))) (z := .dat (.str (PySem.Str.ofString "over"))) (y := .dat (.int 1)) rfl rfl (by simp [ixD, atI_1])) (cons_eq (m := mVar 2) rfl (cons_eq e4 nil_eq))) rfl (show (3 : Nat) ≤ 100000 by decide)
    · have h8 : most = 8 ∧ restOf ts.length o ≠ [] := by
        rcases w8 with w8 | w8
        · omega
        · exact w8
      have hrl : 0 < (restOf ts.length o).length := List.length_pos_iff.mpr h8.2
      have pick : ∀ (s5 : Sl) (rwx : Ro), 0 ≤ rwx.1 → ∃ (j : Nat) (rw' : Ro), m2 ixD (mVar 3) (mCallR 0 (F__law_taken ns) (mCons (m1 lenD (mVar 3)) mNil)) (S w s5) rwx = some (.dat (.int (j : Nat)), rw') ∧ j < ts.length ∧ j ≠ o ∧ 0 ≤ rw'.1 := fun s5 rwx hx => by
        have al : (mCons (m1 lenD (mVar 3)) mNil) (S w s5) rwx = some ([.dat (.int ((restOf ts.length o).length : Nat))], rwx) := cons_eq (m1_eq (g := lenD) (m := mVar 3) rfl (by simp [lenD])) nil_eq
        obtain ⟨d, rw', e, d0, d1, r'⟩ := draw (ns := ns) (i := 0) rfl al (by omega) hx
        obtain ⟨k, rfl⟩ : ∃ k : Nat, d = (k : Int) := ⟨d.toNat, by omega⟩
        obtain ⟨j, hj⟩ : ∃ j, (restOf ts.length o)[k]? = some j := ⟨_, List.getElem?_eq_getElem (by omega)⟩
        have hjm := rest_mem (List.mem_of_getElem? hj)
        refine ⟨j, rw', m2_eq (g := ixD) (m := mVar 3) rfl e ?_, hjm.1, hjm.2, r'⟩
        have := atI_mapD (fun k : Nat => PyData.int k) hj
        simp [ixD, this]
      obtain ⟨j, rw3, e3, j1, j2, r3⟩ := pick .no rw2 r2
      have st5 := set_eq (i := 5) e3 (by simp [S])
      by_cases c6 : w < 6
      · -- with, against
        refine ⟨.two (decide (w = 4)) o j, rw3, ?_, ⟨ho, j1, fun z => j2 z.symm⟩, r3⟩
        refine bodyR_rt rfl (start ?_)
        refine (seq_nx ((ifF (by rw [w_eq, decide_eq_false c0])).trans rfl)).trans ?_
        refine (seq_nx ((ifF (by rw [w_lt, decide_eq_false c3])).trans rfl)).trans ?_
        refine (seq_nx st5).trans ?_
        refine seq_rt ((ifT (rw1 := rw3) ((w_lt 6 (.vl (.dat (.int (j : Nat)))) rw3).trans (by rw [decide_eq_true c6]))).trans (ret_eq ?_))
        have hw : w = 3 ∨ w = 4 ∨ w = 5 := by omega
        rcases hw with rfl | rfl | rfl
        · exact tup_eq (cons_eq (m2_eq (g := ixD) (m := mList (mLst (mCons (mC (.str (PySem.Str.ofString "with"))) (mCons (mC (.str (PySem.Str.ofString "against"))) (mCons (mC (.str (PySem.Str.ofString "with"))) mNil))))) (n := m2 subD (mVar 4) (mC (.int 3))) (z := .dat (.str (PySem.Str.ofString "with"))) (y := .dat (.int 0)) rfl rfl (by simp [ixD, atI_0])) (cons_eq (m := mVar 2) rfl (cons_eq (m := mVar 5) rfl nil_eq))) rfl (show (3 : Nat) ≤ 100000 by decide)
        · exact tup_eq (cons_eq (m2_eq (g := ixD) (m := mList (mLst (mCons (mC (.str (PySem.Str.ofString "with"))) (mCons (mC (.str (PySem.Str.ofString "against"))) (mCons (mC (.str (PySem.Str.ofString "with"))) mNil))))) (n := m2 subD (mVar 4) (mC (.int 3))) (z := .dat (.str (PySem.Str.ofString "against"))) (y := .dat (.int 1)) rfl rfl (by simp [ixD, atI_1])) (cons_eq (m := mVar 2) rfl (cons_eq (m := mVar 5) rfl nil_eq))) rfl (show (3 : Nat) ≤ 100000 by decide)
        · exact tup_eq (cons_eq (m2_eq (g := ixD) (m := mList (mLst (mCons (mC (.str (PySem.Str.ofString "with"))) (mCons (mC (.str (PySem.Str.ofString "against"))) (mCons (mC (.str (PySem.Str.ofString "with"))) mNil))))) (n := m2 subD (mVar 4) (mC (.int 3))) (z := .dat (.str (PySem.Str.ofString "with"))) (y := .dat (.int 2)) rfl rfl (by simp [ixD, atI_2])) (cons_eq (m := mVar 2) rfl (cons_eq (m := mVar 5) rfl nil_eq))) rfl (show (3 : Nat) ≤ 100000 by decide)
      · -- sum, product
        obtain ⟨k, rw4, e4, k1, k2, r4⟩ := pick (.vl (.dat (.int (j : Nat)))) rw3 r3
        refine ⟨.three (decide (w = 7)) o j k, rw4, ?_, ⟨ho, j1, k1, fun z => j2 z.symm, fun z => k2 z.symm⟩, r4⟩
        refine bodyR_rt rfl (start ?_)
        refine (seq_nx ((ifF (by rw [w_eq, decide_eq_false c0])).trans rfl)).trans ?_
        refine (seq_nx ((ifF (by rw [w_lt, decide_eq_false c3])).trans rfl)).trans ?_
        refine (seq_nx st5).trans ?_
        refine (seq_nx ((ifF (rw1 := rw3) ((w_lt 6 (.vl (.dat (.int (j : Nat)))) rw3).trans (by rw [decide_eq_false c6]))).trans rfl)).trans (ret_eq ?_)
        have hw : w = 6 ∨ w = 7 := by omega
        rcases hw with rfl | rfl
        · exact tup_eq (cons_eq (m2_eq (g := ixD) (m := mList (mLst (mCons (mC (.str (PySem.Str.ofString "sum"))) (mCons (mC (.str (PySem.Str.ofString "product"))) mNil)))) (n := m2 subD (mVar 4) (mC (.int 6))) (z := .dat (.str (PySem.Str.ofString "sum"))) (y := .dat (.int 0)) rfl rfl (by simp [ixD, atI_0])) (cons_eq (m := mVar 2) rfl (cons_eq (m := mVar 5) rfl (cons_eq e4 nil_eq)))) rfl (show (4 : Nat) ≤ 100000 by decide)
        · exact tup_eq (cons_eq (m2_eq (g := ixD) (m := mList (mLst (mCons (mC (.str (PySem.Str.ofString "sum"))) (mCons (mC (.str (PySem.Str.ofString "product"))) mNil)))) (n := m2 subD (mVar 4) (mC (.int 6))) (z := .dat (.str (PySem.Str.ofString "product"))) (y := .dat (.int 1)) rfl rfl (by simp [ixD, atI_1])) (cons_eq (m := mVar 2) rfl (cons_eq (m := mVar 5) rfl (cons_eq e4 nil_eq)))) rfl (show (4 : Nat) ≤ 100000 by decide)
end Law
/-! The ties drawn; the checks of a house go through. -/
namespace Law
open PySem L2 FL
theorem lcGo_inv {α β : Type} {g : PyData → List Sl → Option (List Sl)} {tt : Mx Bool} {te : Mx Vl} {ss : List Sl} (enc : α → PyData) (f : β → PyData) (Q : β → Prop) (I : Ro → Prop) (ys : List α) : ∀ (rw : Ro), I rw →
    (∀ y ∈ ys, ∀ rw, I rw → ∃ ss1 d rw', g (enc y) ss = some ss1 ∧ tt ss1 rw = some (true, rw) ∧ te ss1 rw = some (.dat (f d), rw') ∧ Q d ∧ I rw') →
    ∃ (ds : List β) (rw' : Ro), lcGo g tt te ss (ys.map enc) rw = some (ds.map f, rw') ∧ ds.length = ys.length ∧ (∀ d ∈ ds, Q d) ∧ I rw' := by
  induction ys with
  | nil => intro rw h _; exact ⟨[], rw, rfl, rfl, fun d hd => (by cases hd), h⟩
  | cons y ys ih =>
    intro rw h step
    obtain ⟨ss1, d, rw1, h1, h2, h3, h4, h5⟩ := step y List.mem_cons_self rw h
    obtain ⟨ds, rw2, e, e1, e2, e3⟩ := ih rw1 h5 fun z hz => step z (List.mem_cons_of_mem _ hz)
    refine ⟨d :: ds, rw2, ?_, by simp [e1], fun z hz => ?_, e3⟩
    · rw [List.map_cons]
      unfold lcGo
      rw [h1]
      show (match tt ss1 rw with | none => none | some (true, rw1) => _ | some (false, rw1) => _) = _
      rw [h2]
      show (match te ss1 rw with | some (.dat y, rw2) => _ | _ => none) = _
      rw [h3]
      show (match lcGo g tt te ss (ys.map enc) rw1 with | some (zs, rw3) => some (f d :: zs, rw3) | none => none) = _
      rw [e]
      rfl
    · rcases List.mem_cons.mp hz with rfl | hz
      · exact h4
      · exact e2 z hz
theorem ties_val (ns : List Int) {ts : List Thing} (h1 : 1 ≤ ts.length) (h3 : ts.length ≤ 3) (hm : Marked ts) {most : Int} (m0 : 2 ≤ most) (m1' : most ≤ 6) {rw : Ro} (h : 0 ≤ rw.1) : ∃ ties rw', F__law_ties ns [.dat (thsD ts), .dat (.int most)] rw = some (.dat (tisD ties), rw') ∧ (∀ t ∈ ties, TieOk ts t) ∧ (ties.length : Int) ≤ most ∧ 0 ≤ rw'.1 := by
  obtain ⟨u, rw1, e1, u0, u1, r1⟩ := draw (ns := ns) (i := 0) (ma := mCons (mC (.int 2)) mNil) (ss := [.row, .vl (.dat (thsD ts)), .vl (.dat (.int most)), .no]) (rw := rw) rfl rfl (by decide) h
  obtain ⟨c, hc, c0, c1⟩ : ∃ c, ixD (.dat (.list [.int 3, .int (most + 1)])) (.dat (.int u)) = some (.dat (.int c)) ∧ 0 < c ∧ c ≤ most + 1 := by
    have hu : u = 0 ∨ u = 1 := by omega
    rcases hu with rfl | rfl
    · exact ⟨3, by simp [ixD, atI_0], by omega, by omega⟩
    · exact ⟨most + 1, by simp [ixD, atI_1], by omega, by omega⟩
  have al : (mCons (m2 ixD (mList (mLst (mCons (mC (.int 3)) (mCons (m2 addD (mVar 2) (mC (.int 1))) mNil)))) (mCallR 0 (F__law_taken ns) (mCons (mC (.int 2)) mNil))) mNil) [.row, .vl (.dat (thsD ts)), .vl (.dat (.int most)), .no] rw = some ([.dat (.int c)], rw1) :=
    cons_eq (m2_eq (g := ixD) (x := .dat (.list [.int 3, .int (most + 1)])) rfl e1 hc) nil_eq
  obtain ⟨v, rw2, e2, v0, v1, r2⟩ := draw (ns := ns) (i := 0) rfl al c0 r1
  have src : mRg1 (mCallR 0 (F__law_taken ns) (mCons (m2 ixD (mList (mLst (mCons (mC (.int 3)) (mCons (m2 addD (mVar 2) (mC (.int 1))) mNil)))) (mCallR 0 (F__law_taken ns) (mCons (mC (.int 2)) mNil))) mNil)) [.row, .vl (.dat (thsD ts)), .vl (.dat (.int most)), .no] rw = some ((List.range v.toNat).map (fun i : Nat => PyData.int i), rw2) := by
    have h2 : (-1000000 : Int) ≤ v ∧ v ≤ 1000000 := by omega
    unfold mRg1 bnd
    rw [e2]
    simp only []
    rw [if_pos h2, rgD_map]
    rfl
  obtain ⟨ties, rw3, e3, l3, q3, r3⟩ := lcGo_inv (g := gNm 3) (tt := mYes) (te := mCallR 0 (F__law_tie ns) (mCons (mVar 1) mNil)) (ss := [.row, .vl (.dat (thsD ts)), .vl (.dat (.int most)), .no]) (fun i : Nat => PyData.int i) tieD (TieOk ts) (fun rw => 0 ≤ rw.1) (List.range v.toNat) rw2 r2 fun i _ rw hr => by
    obtain ⟨t, rw', e, ht, hr'⟩ := tie_val ns h1 h3 hm hr
    exact ⟨[.row, .vl (.dat (thsD ts)), .vl (.dat (.int most)), .vl (.dat (.int (i : Nat)))], t, rw', rfl, rfl, callR_eq (i := 0) rfl (cons_eq (m := mVar 1) rfl nil_eq) e, ht, hr'⟩
  rw [List.length_range] at l3
  refine ⟨ties, rw3, bodyR_rt rfl (ret_eq (list_eq ((lc_eq (vs := [3]) rfl src (by rw [List.length_map, List.length_range]; omega)).trans e3))), q3, by omega, r3⟩
/-! ### the checks -/
theorem bls_true {α : Type} : ∀ ys : List α, bls? (ys.map fun _ => PyData.bool true) = some (ys.map fun _ => true)
  | [] => rfl
  | y :: ys => by
    rw [List.map_cons]
    unfold bls?
    rw [bls_true ys]
    rfl
theorem all_true {α : Type} (ys : List α) : allD (.dat (.list (ys.map fun _ => PyData.bool true))) = some (.dat (.bool true)) := by
  unfold allD
  simp only [bls_true]
  have : (ys.map fun _ => true).all id = true := by simp
  rw [this]
theorem below_val {i n : Int} (h0 : 0 ≤ i) (h1 : i < n) : F_is_number_below [.dat (.int i), .dat (.int n)] = some (.dat (.bool true)) := by
  refine bodyP_rt (rw := (0, 0)) rfl ?_
  simp [m_is_number_below, bodyP, bodyL, bodyR, bodyX, bodyT, slots, slotsR, ssT, sSeq, sIf, sNx, sRet, sRetL, sRetO, sRetX, sSet, sSetX, sOwn, sApp, sExt, sClr, sDrop, sDropX, sTgt, sFor, sFrz, frz, sRow, sTry, sRaise, noAt, noRow, mBor, mTst, mAnd, mOr, mNot, mIf, mAndV, mOrV, mNotV, mChain, m1, m2, bnd, opt, pur, mVar, mC, mCons, mNil, mTup, mLst, mList, mCall, mCallL, mCallX, mCallR, mOk, mHse, mMake, mSl, mSome, mNone, mSeq, mEn, mRg1, mRg2, mZ3, mLc, mLc2, mYes, mIxV, mInO, mRow1, mRow2, mRowLen, mRowAt, dats, putS, gNm, gTp, gsCons, gsNil, seqD, addD, subD, subI, mulD, fdivD, fdivI, modD, modI, negD, i2, ltD, ltI, leD, leI, gtD, gtI, geD, geI, eqD, neD, isND, notND, inD, ninD, ixD, slD, lenD, tupleD, listD, intD, lstD, isiD, isi2D, tyN, isTy, noOwn, wipeS, slots, h0, h1]
theorem andV_eq {a b : Mx Vl} {ss : List Sl} {rw rw1 : Ro} {x : Option (Vl × Ro)} (h1 : a ss rw = some (.dat (.bool true), rw1)) (h2 : b ss rw1 = x) : mAndV a b ss rw = x := by
  unfold mAndV bnd
  rw [tst_eq h1]
  simp only [if_true]
  exact h2
theorem chain_eq {g g' : Vl → Vl → Option Vl} {a b c : Mx Vl} {ss : List Sl} {rw rw1 rw2 rw3 : Ro} {x y z : Vl} {k : Bool} (h1 : a ss rw = some (x, rw1)) (h2 : b ss rw1 = some (y, rw2)) (h3 : g x y = some (.dat (.bool true))) (h4 : c ss rw2 = some (z, rw3)) (h5 : g' y z = some (.dat (.bool k))) : mChain g g' a b c ss rw = some (.dat (.bool k), rw3) := by
  unfold mChain bnd
  rw [h1]
  simp only []
  rw [h2]
  simp only []
  have : mTst (opt (g x y)) ss rw2 = some (true, rw2) := tst_eq (by unfold opt; rw [h3])
  rw [this]
  simp only [if_true]
  rw [h4]
  simp only []
  unfold opt
  rw [h5]
theorem name_val1 {z : Str} (h : NameOk z) : F_is_name [.dat (.str z)] = some (.dat (.bool true)) := by
  obtain ⟨h1, h8, hc⟩ := h
  have hl : z.length ≤ 100000 := by omega
  have ln : m1 lenD (mVar 0) [.vl (.dat (.str z)), .no] (0, 0) = some (.dat (.int (z.length : Nat)), (0, 0)) := m1_eq (g := lenD) (m := mVar 0) rfl (by unfold lenD; simp only []; rw [if_pos hl])
  have go := lcGo_map (g := gNm 1) (tt := mYes) (te := m2 inD (mVar 1) (mC (.str (PySem.Str.ofString "abcdefghijklmnopqrstuvwxyz")))) (ss := [.vl (.dat (.str z)), .no]) (rw := (0, 0)) (fun c : Nat => PyData.str ⟨#[c]⟩) (fun _ => .bool true) (fun _ => true) z.cps.toList fun c hcm => by
    refine ⟨[.vl (.dat (.str z)), .vl (.dat (.str ⟨#[c]⟩))], rfl, rfl, fun _ => m2_eq (g := inD) (m := mVar 1) rfl rfl ?_⟩
    have hm : c ∈ alph.cps.toList := hc c hcm
    have e : inO (.str ⟨#[c]⟩) (.str alph) = some true := by
      unfold inO
      simp only []
      rw [if_pos (show (#[c] : Array Nat).size = 1 from rfl)]
      show some (decide (c ∈ alph.cps.toList)) = _
      rw [decide_eq_true hm]
    unfold inD
    simp only []
    rw [e]
  rw [List.filter_eq_self.mpr (fun _ _ => rfl)] at go
  have src : mSeq (mVar 0) [.vl (.dat (.str z)), .no] (0, 0) = some (z.cps.toList.map (fun c : Nat => PyData.str ⟨#[c]⟩), (0, 0)) := rfl
  have hz : (z.cps.toList.map (fun c : Nat => PyData.str ⟨#[c]⟩)).length ≤ 100000 := by
    rw [List.length_map, Array.length_toList]
    exact hl
  have lc := (lc_eq (vs := [1]) (g := gNm 1) (tt := mYes) (te := m2 inD (mVar 1) (mC (.str (PySem.Str.ofString "abcdefghijklmnopqrstuvwxyz")))) rfl src hz).trans go
  refine bodyP_rt (rw := (0, 0)) rfl (ret_eq (andV_eq (rw1 := (0, 0)) (chain_eq (g := leD) (g' := leD) (a := mC (.int 1)) (c := mC (.int 8)) rfl ln ?_ rfl ?_) (m1_eq (g := allD) (list_eq lc) (all_true _))))
  · have : (1 : Int) ≤ (z.length : Int) := by omega
    simp [leD, i2, leI, this]
  · have : (z.length : Int) ≤ 8 := by omega
    simp [leD, i2, leI, this]
theorem marks_val1 {ms : List Int} (h : MarksOk ms) : F_are_marks [.dat (mkD ms)] = some (.dat (.bool true)) := by
  refine bodyP_rt (rw := (0, 0)) rfl ?_
  rcases three_cases h.l1 h.l3 with ⟨a, rfl⟩ | ⟨a, b, rfl⟩ | ⟨a, b, c, rfl⟩
  · have ha := h.in_ a (by simp)
    simp [m_are_marks, bodyP, bodyL, bodyR, bodyX, bodyT, slots, slotsR, ssT, sSeq, sIf, sNx, sRet, sRetL, sRetO, sRetX, sSet, sSetX, sOwn, sApp, sExt, sClr, sDrop, sDropX, sTgt, sFor, sFrz, frz, sRow, sTry, sRaise, noAt, noRow, mBor, mTst, mAnd, mOr, mNot, mIf, mAndV, mOrV, mNotV, mChain, m1, m2, bnd, opt, pur, mVar, mC, mCons, mNil, mTup, mLst, mList, mCall, mCallL, mCallX, mCallR, mOk, mHse, mMake, mSl, mSome, mNone, mSeq, mEn, mRg1, mRg2, mZ3, mLc, mLc2, mYes, mIxV, mInO, mRow1, mRow2, mRowLen, mRowAt, dats, putS, gNm, gTp, gsCons, gsNil, seqD, addD, subD, subI, mulD, fdivD, fdivI, modD, modI, negD, i2, ltD, ltI, leD, leI, gtD, gtI, geD, geI, eqD, neD, isND, notND, inD, ninD, ixD, slD, lenD, tupleD, listD, intD, lstD, isiD, isi2D, tyN, isTy, noOwn, wipeS, slots, mkD, lcGo, ha, allD, bls?, zpD, cutD, HT.sIx]
  · have ha := h.in_ a (by simp)
    have hb := h.in_ b (by simp)
    have g1 : 2 ≤ b - a := by have := h.gap 0 a b rfl rfl; omega
    simp [m_are_marks, bodyP, bodyL, bodyR, bodyX, bodyT, slots, slotsR, ssT, sSeq, sIf, sNx, sRet, sRetL, sRetO, sRetX, sSet, sSetX, sOwn, sApp, sExt, sClr, sDrop, sDropX, sTgt, sFor, sFrz, frz, sRow, sTry, sRaise, noAt, noRow, mBor, mTst, mAnd, mOr, mNot, mIf, mAndV, mOrV, mNotV, mChain, m1, m2, bnd, opt, pur, mVar, mC, mCons, mNil, mTup, mLst, mList, mCall, mCallL, mCallX, mCallR, mOk, mHse, mMake, mSl, mSome, mNone, mSeq, mEn, mRg1, mRg2, mZ3, mLc, mLc2, mYes, mIxV, mInO, mRow1, mRow2, mRowLen, mRowAt, dats, putS, gNm, gTp, gsCons, gsNil, seqD, addD, subD, subI, mulD, fdivD, fdivI, modD, modI, negD, i2, ltD, ltI, leD, leI, gtD, gtI, geD, geI, eqD, neD, isND, notND, inD, ninD, ixD, slD, lenD, tupleD, listD, intD, lstD, isiD, isi2D, tyN, isTy, noOwn, wipeS, slots, mkD, lcGo, ha, hb, g1, allD, bls?, zpD, cutD, HT.sIx]
  · have ha := h.in_ a (by simp)
    have hb := h.in_ b (by simp)
    have hc := h.in_ c (by simp)
    have g1 : 2 ≤ b - a := by have := h.gap 0 a b rfl rfl; omega
    have g2 : 2 ≤ c - b := by have := h.gap 1 b c rfl rfl; omega
    simp [m_are_marks, bodyP, bodyL, bodyR, bodyX, bodyT, slots, slotsR, ssT, sSeq, sIf, sNx, sRet, sRetL, sRetO, sRetX, sSet, sSetX, sOwn, sApp, sExt, sClr, sDrop, sDropX, sTgt, sFor, sFrz, frz, sRow, sTry, sRaise, noAt, noRow, mBor, mTst, mAnd, mOr, mNot, mIf, mAndV, mOrV, mNotV, mChain, m1, m2, bnd, opt, pur, mVar, mC, mCons, mNil, mTup, mLst, mList, mCall, mCallL, mCallX, mCallR, mOk, mHse, mMake, mSl, mSome, mNone, mSeq, mEn, mRg1, mRg2, mZ3, mLc, mLc2, mYes, mIxV, mInO, mRow1, mRow2, mRowLen, mRowAt, dats, putS, gNm, gTp, gsCons, gsNil, seqD, addD, subD, subI, mulD, fdivD, fdivI, modD, modI, negD, i2, ltD, ltI, leD, leI, gtD, gtI, geD, geI, eqD, neD, isND, notND, inD, ninD, ixD, slD, lenD, tupleD, listD, intD, lstD, isiD, isi2D, tyN, isTy, noOwn, wipeS, slots, mkD, lcGo, ha, hb, hc, g1, g2, allD, bls?, zpD, cutD, HT.sIx]
end Law
/-! is_tie, check_ties, check_things. -/
namespace Law
open PySem L2 FL
theorem some_eq {fa : Mx Vl} {ss : List Sl} {rw rw1 : Ro} {i : Int} (h : fa ss rw = some (.dat (.int i), rw1)) : mSome fa ss rw = some (some i, rw1) := by
  unfold mSome bnd opt
  rw [h]
theorem none_eq {ss : List Sl} {rw : Ro} : mNone ss rw = some (none, rw) := rfl
theorem sl_eq {fa : Mx Vl} {fl fh : Mx (Option Int)} {ss : List Sl} {rw rw1 rw2 rw3 : Ro} {x y : Vl} {l h : Option Int} (h1 : fa ss rw = some (x, rw1)) (h2 : fl ss rw1 = some (l, rw2)) (h3 : fh ss rw2 = some (h, rw3)) (h4 : slD x l h = some y) : mSl fa fl fh ss rw = some (y, rw3) := by
  unfold mSl bnd opt
  rw [h1]
  simp only []
  rw [h2]
  simp only []
  rw [h3]
  simp only []
  rw [h4]
theorem or_false {a b : Mx Bool} {ss : List Sl} {rw rw1 : Ro} {x : Option (Bool × Ro)} (h1 : a ss rw = some (false, rw1)) (h2 : b ss rw1 = x) : mOr a b ss rw = x := by
  unfold mOr bnd
  rw [h1]
  simp only [Bool.false_eq_true, if_false]
  exact h2
theorem cut_mid {α : Type} (x : α) (A B : List α) : cutD (x :: (A ++ B)) (some 1) (some ((A.length : Nat) + 1 : Int)) = A := by
  unfold cutD
  have e1 : HT.sIx (x :: (A ++ B)).length 0 (some 1) = 1 := by
    have := HT.sIx_nat (x :: (A ++ B)).length 0 1
    simp at this ⊢
    rw [this]
  have e2 : HT.sIx (x :: (A ++ B)).length (x :: (A ++ B)).length (some ((A.length : Nat) + 1 : Int)) = A.length + 1 := by
    have := HT.sIx_nat (x :: (A ++ B)).length (x :: (A ++ B)).length (A.length + 1)
    simp at this ⊢
    rw [this]
  rw [e1, e2]
  simp
theorem cut_end {α : Type} (x : α) (A B : List α) : cutD (x :: (A ++ B)) (some ((A.length : Nat) + 1 : Int)) none = B := by
  unfold cutD
  have e1 : HT.sIx (x :: (A ++ B)).length 0 (some ((A.length : Nat) + 1 : Int)) = A.length + 1 := by
    have := HT.sIx_nat (x :: (A ++ B)).length 0 (A.length + 1)
    simp at this ⊢
    rw [this]
  rw [e1, HT.sIx_none]
  simp
abbrev kvG : List (Str × Int) := [(PySem.Str.ofString "with", 2), (PySem.Str.ofString "against", 2), (PySem.Str.ofString "sum", 3), (PySem.Str.ofString "product", 3), (PySem.Str.ofString "rate", 2), (PySem.Str.ofString "under", 1), (PySem.Str.ofString "over", 1)]
abbrev nD (ns : List Nat) : List PyData := ns.map fun k : Nat => PyData.int k
abbrev tieG (z : Str) (named rest : List Nat) : PyData := .tuple (.str z :: (nD named ++ nD rest))
theorem is_tie_start {ts : List Thing} {z : Str} {named rest : List Nat} (hG : kvG.lookup z = some (named.length : Int)) (hb : ∀ i ∈ named, i < ts.length) (hl : named.length ≤ 10) {b : Sx} {x : Option Ou} (h : b [.vl (.dat (thsD ts)), .vl (.dat (tieG z named rest)), .vl (.dat (.str z)), .vl (.dat (.int (named.length : Int))), .vl (.dat (.tuple (nD named))), .vl (.dat (.tuple (nD rest))), .no, .no] (0, 0) = x) :
    sSeq (sIf (mOr (mTst (m2 eqD (m1 lenD (mVar 1)) (mC (.int 0)))) (mTst (m1 (ninG kvG) (m2 ixD (mVar 1) (mC (.int 0)))))) (sRet (mC (.bool false))) sNx) (sSeq (sSet 2 (m2 ixD (mVar 1) (mC (.int 0)))) (sSeq (sSet 3 (m1 (ixG kvG) (mVar 2))) (sSeq (sSet 4 (mSl (mVar 1) (mSome (mC (.int 1))) (mSome (m2 addD (mVar 3) (mC (.int 1)))))) (sSeq (sSet 5 (mSl (mVar 1) (mSome (m2 addD (mVar 3) (mC (.int 1)))) mNone)) (sSeq (sIf (mOr (mTst (m2 neD (m1 lenD (mVar 4)) (mVar 3))) (mNot (mTst (m1 allD (mList (mLc [7] (mSeq (mVar 4)) (gNm 7) mYes (mCall F_is_number_below (mCons (mVar 7) (mCons (m1 lenD (mVar 0)) mNil))))))))) (sRet (mC (.bool false))) sNx) b))))) [.vl (.dat (thsD ts)), .vl (.dat (tieG z named rest)), .no, .no, .no, .no, .no, .no] (0, 0) = x := by
  have i0 : ixD (.dat (tieG z named rest)) (.dat (.int 0)) = some (.dat (.str z)) := by
    unfold ixD
    simp only [atI_0]
  have l0 : lenD (.dat (tieG z named rest)) = some (.dat (.int ((.str z :: (nD named ++ nD rest) : List PyData).length : Nat))) := rfl
  refine (seq_nx ((ifF (rw1 := (0, 0)) (or_false (tst_eq (b := false) (m2_eq (g := eqD) (n := mC (.int 0)) (m1_eq (g := lenD) (m := mVar 1) rfl l0) rfl ?_)) (tst_eq (m1_eq (g := ninG kvG) (m2_eq (g := ixD) (m := mVar 1) (n := mC (.int 0)) rfl rfl i0) ?_)))).trans rfl)).trans ?_
  · unfold eqD
    simp only [eq_int]
    have : ¬ (((.str z :: (nD named ++ nD rest) : List PyData).length : Nat) : Int) = 0 := by
      rw [List.length_cons]
      omega
    rw [decide_eq_false this]
  · unfold ninG
    simp only [hG]
    rfl
  refine (seq_nx (set_eq (i := 2) (m2_eq (g := ixD) (m := mVar 1) (n := mC (.int 0)) rfl rfl i0) (by simp))).trans ?_
  refine (seq_nx (set_eq (i := 3) (x := .dat (.int (named.length : Int))) (m1_eq (g := ixG kvG) (m := mVar 2) rfl (by unfold ixG; simp only [hG])) (by simp))).trans ?_
  refine (seq_nx (set_eq (i := 4) (x := .dat (.tuple (nD named))) (sl_eq (fa := mVar 1) rfl (some_eq (fa := mC (.int 1)) rfl) (some_eq (m2_eq (g := addD) (m := mVar 3) (n := mC (.int 1)) rfl rfl rfl)) ?_) (by simp))).trans ?_
  · unfold slD
    simp only []
    have := cut_mid (PyData.str z) (nD named) (nD rest)
    rw [List.length_map] at this
    rw [this]
  refine (seq_nx (set_eq (i := 5) (x := .dat (.tuple (nD rest))) (sl_eq (fa := mVar 1) rfl (some_eq (m2_eq (g := addD) (m := mVar 3) (n := mC (.int 1)) rfl rfl rfl)) none_eq ?_) (by simp))).trans ?_
  · unfold slD
    simp only []
    have := cut_end (PyData.str z) (nD named) (nD rest)
    rw [List.length_map] at this
    rw [this]
  have go := lcGo_map (g := gNm 7) (tt := mYes) (te := mCall F_is_number_below (mCons (mVar 7) (mCons (m1 lenD (mVar 0)) mNil))) (ss := [.vl (.dat (thsD ts)), .vl (.dat (tieG z named rest)), .vl (.dat (.str z)), .vl (.dat (.int (named.length : Int))), .vl (.dat (.tuple (nD named))), .vl (.dat (.tuple (nD rest))), .no, .no]) (rw := (0, 0)) (fun k : Nat => PyData.int k) (fun _ => .bool true) (fun _ => true) named fun k hk => by
    have hlt := hb k hk
    exact ⟨[.vl (.dat (thsD ts)), .vl (.dat (tieG z named rest)), .vl (.dat (.str z)), .vl (.dat (.int (named.length : Int))), .vl (.dat (.tuple (nD named))), .vl (.dat (.tuple (nD rest))), .no, .vl (.dat (.int (k : Nat)))], rfl, rfl, fun _ => call_eq (cons_eq (m := mVar 7) rfl (cons_eq (m1_eq (g := lenD) (m := mVar 0) rfl (len_ths ts)) nil_eq)) (below_val (by omega) (by omega))⟩
  rw [List.filter_eq_self.mpr (fun _ _ => rfl)] at go
  have src : mSeq (mVar 4) [.vl (.dat (thsD ts)), .vl (.dat (tieG z named rest)), .vl (.dat (.str z)), .vl (.dat (.int (named.length : Int))), .vl (.dat (.tuple (nD named))), .vl (.dat (.tuple (nD rest))), .no, .no] (0, 0) = some (named.map (fun k : Nat => PyData.int k), (0, 0)) := rfl
  have lc := (lc_eq (vs := [7]) (g := gNm 7) (tt := mYes) (te := mCall F_is_number_below (mCons (mVar 7) (mCons (m1 lenD (mVar 0)) mNil))) rfl src (by rw [List.length_map]; omega)).trans go
  refine (seq_nx ((ifF (rw1 := (0, 0)) (or_false (rw1 := (0, 0)) (tst_eq (b := false) (m2_eq (g := neD) (x := .dat (.int ((nD named).length : Nat))) (n := mVar 3) (m1_eq (g := lenD) (m := mVar 4) rfl rfl) rfl ?_)) (not_eq (b := true) (tst_eq (m1_eq (g := allD) (list_eq lc) (all_true _)))))).trans rfl)).trans h
  unfold neD
  simp only [eq_int, List.length_map]
  simp
theorem in_marks (z : Str) : inO (.str z) (.tuple [.str (PySem.Str.ofString "rate"), .str (PySem.Str.ofString "under"), .str (PySem.Str.ofString "over")]) = some (decide (z = PySem.Str.ofString "rate") || (decide (z = PySem.Str.ofString "under") || decide (z = PySem.Str.ofString "over"))) := by
  unfold inO
  simp only [dV, dVs]
  show some (inV (.str z) [.str (PySem.Str.ofString "rate"), .str (PySem.Str.ofString "under"), .str (PySem.Str.ofString "over")]) = _
  have e : ∀ u v : Str, (u == v) = decide (v = u) := fun u v => by
    by_cases h : v = u
    · subst h; simp
    · simp [h, Ne.symm h]
  simp [inV, eqV, e]
/-- a tie of a thing and a mark -/
theorem is_tie_mark {ts : List Thing} {z : Str} {named : List Nat} {m i : Nat} {t : Thing} (hG : kvG.lookup z = some (named.length : Int)) (hb : ∀ i ∈ named, i < ts.length) (hl : named.length ≤ 10) (hz : inO (.str z) (.tuple [.str (PySem.Str.ofString "rate"), .str (PySem.Str.ofString "under"), .str (PySem.Str.ofString "over")]) = some true) (hi : named.getLast? = some i) (ht : ts[i]? = some t) (hm : m < t.2.length) :
    F_is_tie [.dat (thsD ts), .dat (tieG z named [m])] = some (.dat (.bool true)) := by
  have aL : atI (nD named) (-1) = some (.int (i : Nat)) := atI_last (by rw [List.getLast?_map, hi]; rfl)
  refine bodyP_rt (rw := (0, 0)) rfl (is_tie_start hG hb hl ?_)
  refine seq_rt ((ifT (rw1 := (0, 0)) (tst_eq (m2_eq (g := inD) (m := mVar 2) rfl rfl (by unfold inD; simp only [hz])))).trans ?_)
  refine (seq_nx (set_eq (i := 6) (x := .dat (mkD t.2)) (m2_eq (g := ixD) (n := mC (.int 1)) (m2_eq (g := ixD) (m := mVar 0) (y := .dat (.int (i : Nat))) rfl (m2_eq (g := ixD) (m := mVar 4) (n := m1 negD (mC (.int 1))) (y := .dat (.int (-1))) rfl rfl (by unfold ixD; simp only [aL])) (ths_at ht)) rfl (th_marks t)) (by simp))).trans ?_
  refine ret_eq (andV_eq (rw1 := (0, 0)) (m2_eq (g := eqD) (n := mC (.int 1)) (m1_eq (g := lenD) (m := mVar 5) (y := .dat (.int 1)) rfl rfl) rfl (by unfold eqD; simp only [eq_int]; rfl)) (call_eq (cons_eq (m2_eq (g := ixD) (m := mVar 5) (n := mC (.int 0)) (z := .dat (.int (m : Nat))) rfl rfl (by unfold ixD; simp [nD, atI_0])) (cons_eq (m1_eq (g := lenD) (m := mVar 6) rfl (len_marks t.2)) nil_eq)) (below_val (by omega) (by omega))))
theorem nin_ints (i : Nat) (js : List Nat) (h : i ∉ js) : ninD (.dat (.int (i : Nat))) (.dat (.tuple (nD js))) = some (.dat (.bool true)) := by
  have dvs : ∀ js : List Nat, dVs (nD js) = some (js.map fun k : Nat => V.int k) := fun js => by
    induction js with
    | nil => rfl
    | cons j js ih =>
      show dVs (.int (j : Nat) :: nD js) = _
      unfold dVs
      rw [ih]
      rfl
  have iv : ∀ js : List Nat, i ∉ js → inV (.int (i : Nat)) (js.map fun k : Nat => V.int k) = false := fun js => by
    induction js with
    | nil => intro _; rfl
    | cons j js ih =>
      intro h
      have h1 : i ≠ j := fun z => h (by rw [z]; exact List.mem_cons_self)
      have h2 := ih fun z => h (List.mem_cons_of_mem _ z)
      unfold inV at h2 ⊢
      rw [List.map_cons, List.any_cons, h2]
      have : ¬ ((j : Int) = (i : Int)) := by omega
      simp [eqV, this]
  unfold ninD inO
  simp only [dV, dvs, iv js h]
  rfl
theorem is_tie_free {ts : List Thing} {z : Str} {i : Nat} {js : List Nat} (hG : kvG.lookup z = some ((i :: js).length : Int)) (hb : ∀ k ∈ i :: js, k < ts.length) (hl : (i :: js).length ≤ 10) (hz : inO (.str z) (.tuple [.str (PySem.Str.ofString "rate"), .str (PySem.Str.ofString "under"), .str (PySem.Str.ofString "over")]) = some false) (hi : i ∉ js) :
    F_is_tie [.dat (thsD ts), .dat (tieG z (i :: js) [])] = some (.dat (.bool true)) := by
  refine bodyP_rt (rw := (0, 0)) rfl (is_tie_start hG hb hl ?_)
  refine (seq_nx ((ifF (rw1 := (0, 0)) (tst_eq (m2_eq (g := inD) (m := mVar 2) rfl rfl (by unfold inD; simp only [hz])))).trans rfl)).trans ?_
  refine ret_eq (andV_eq (rw1 := (0, 0)) (m2_eq (g := eqD) (n := mC (.int 0)) (m1_eq (g := lenD) (m := mVar 5) (y := .dat (.int 0)) rfl rfl) rfl (by unfold eqD; simp only [eq_int]; rfl)) (m2_eq (g := ninD) (x := .dat (.int (i : Nat))) (y := .dat (.tuple (nD js))) (m2_eq (g := ixD) (m := mVar 4) (n := mC (.int 0)) rfl rfl (by unfold ixD; simp [nD, atI_0])) (sl_eq (fa := mVar 4) rfl (some_eq (fa := mC (.int 1)) rfl) none_eq ?_) (nin_ints i js hi)))
  unfold slD
  simp only []
  have e := cut_end (PyData.int (i : Nat)) [] (nD js)
  have e2 : cutD (nD (i :: js)) (some 1) none = nD js := by simpa using e
  rw [e2]
theorem g_rate : kvG.lookup (Str.ofString "rate") = some 2 := by decide +kernel
theorem g_under : kvG.lookup (Str.ofString "under") = some 1 := by decide +kernel
theorem g_over : kvG.lookup (Str.ofString "over") = some 1 := by decide +kernel
theorem g_with : kvG.lookup (Str.ofString "with") = some 2 := by decide +kernel
theorem g_against : kvG.lookup (Str.ofString "against") = some 2 := by decide +kernel
theorem g_sum : kvG.lookup (Str.ofString "sum") = some 3 := by decide +kernel
theorem g_product : kvG.lookup (Str.ofString "product") = some 3 := by decide +kernel
theorem is_tie_val {ts : List Thing} {t : Tie} (ht : TieOk ts t) : F_is_tie [.dat (thsD ts), .dat (tieD t)] = some (.dat (.bool true)) := by
  cases t with
  | rate i j m =>
    obtain ⟨h1, t, h2, h3⟩ := ht
    have hj : j < ts.length := (List.getElem?_eq_some_iff.mp h2).1
    exact is_tie_mark (named := [i, j]) (m := m) g_rate (fun k hk => by simp at hk; omega) (show 2 ≤ 10 by decide) (by rw [in_marks]; decide +kernel) rfl h2 h3
  | edge o i m =>
    obtain ⟨t, h2, h3⟩ := ht
    have hi : i < ts.length := (List.getElem?_eq_some_iff.mp h2).1
    cases o with
    | false => exact is_tie_mark (named := [i]) (m := m) g_under (fun k hk => by simp at hk; omega) (show 1 ≤ 10 by decide) (by rw [in_marks]; decide +kernel) rfl h2 h3
    | true => exact is_tie_mark (named := [i]) (m := m) g_over (fun k hk => by simp at hk; omega) (show 1 ≤ 10 by decide) (by rw [in_marks]; decide +kernel) rfl h2 h3
  | two a i j =>
    obtain ⟨h1, h2, h3⟩ := ht
    cases a with
    | false => exact is_tie_free (i := i) (js := [j]) g_with (fun k hk => by simp at hk; omega) (show 2 ≤ 10 by decide) (by rw [in_marks]; decide +kernel) (by simp [h3])
    | true => exact is_tie_free (i := i) (js := [j]) g_against (fun k hk => by simp at hk; omega) (show 2 ≤ 10 by decide) (by rw [in_marks]; decide +kernel) (by simp [h3])
  | three p i j k =>
    obtain ⟨h1, h2, h3, h4, h5⟩ := ht
    cases p with
    | false => exact is_tie_free (i := i) (js := [j, k]) g_sum (fun k hk => by simp at hk; omega) (show 3 ≤ 10 by decide) (by rw [in_marks]; decide +kernel) (by simp [h4, h5])
    | true => exact is_tie_free (i := i) (js := [j, k]) g_product (fun k hk => by simp at hk; omega) (show 3 ≤ 10 by decide) (by rw [in_marks]; decide +kernel) (by simp [h4, h5])
end Law
/-! check_ties, check_things go through; a room of any spots. -/
namespace Law
open PySem L2 FL
theorem ctie_go {ts : List Thing} (B : Sl) : ∀ (ties : List Tie) (k : Nat) (s2 s3 : Sl) (rw : Ro), (∀ t ∈ ties, TieOk ts t) →
    ∃ s2' s3', forGo (gTp 2 (gsCons (gNm 2) (gsCons (gNm 3) gsNil))) (sIf (mNot (mTst (mCall F_is_tie (mCons (mVar 0) (mCons (mVar 3) mNil))))) sNo sNx) (((ties.map tieD).zipIdx k).map fun p => .tuple [.int (p.2 : Nat), p.1]) [.vl (.dat (thsD ts)), B, s2, s3] rw = some (.nx [.vl (.dat (thsD ts)), B, s2', s3'] rw) := by
  intro ties
  induction ties with
  | nil => intro k s2 s3 rw _; exact ⟨s2, s3, rfl⟩
  | cons t ties ih =>
    intro k s2 s3 rw h
    have hk := is_tie_val (h t List.mem_cons_self)
    obtain ⟨a, b, e⟩ := ih (k + 1) (.vl (.dat (.int (k : Nat)))) (.vl (.dat (tieD t))) rw fun z hz => h z (List.mem_cons_of_mem _ hz)
    refine ⟨a, b, ?_⟩
    rw [List.map_cons, List.zipIdx_cons, List.map_cons]
    rw [forGo_step (ss1 := [.vl (.dat (thsD ts)), B, .vl (.dat (.int (k : Nat))), .vl (.dat (tieD t))]) (ss2 := [.vl (.dat (thsD ts)), B, .vl (.dat (.int (k : Nat))), .vl (.dat (tieD t))]) (rw2 := rw) rfl ((ifF (rw1 := rw) (not_eq (b := true) (tst_eq (call_eq rfl hk)))).trans rfl)]
    exact e
theorem check_ties_val {ts : List Thing} {ties : List Tie} (h : ∀ t ∈ ties, TieOk ts t) (hl : ties.length ≤ 6) : F_check_ties [.dat (thsD ts), .dat (tisD ties)] = some (.dat .none) := by
  obtain ⟨a, b, e⟩ := ctie_go (.vl (.dat (tisD ties))) ties 0 .no .no (0, 0) h
  have ln : m1 lenD (mVar 1) [.vl (.dat (thsD ts)), .vl (.dat (tisD ties)), .no, .no] (0, 0) = some (.dat (.int (ties.length : Nat)), (0, 0)) := m1_eq (g := lenD) (m := mVar 1) rfl (by unfold lenD tisD; simp only [List.length_map])
  refine bodyP_nx (rw := (0, 0)) rfl ((seq_nx ((ifF (rw1 := (0, 0)) (tst_eq (m2_eq (g := gtD) (n := mC (.int 6)) ln rfl ?_))).trans rfl)).trans ((for_eq (xs := ((ties.map tieD).zipIdx 0).map fun p => .tuple [.int (p.2 : Nat), p.1]) (rw1 := (0, 0)) rfl).trans e))
  have : ¬ ((6 : Int) < (ties.length : Int)) := by omega
  simp [gtD, i2, gtI, this]
theorem in_names (z : Str) (zs : List Str) (h : z ∉ zs) : ∀ (ss : List Sl) (rw : Ro), ss[1]? = some (.own (zs.map .str)) → ss[3]? = some (.vl (.dat (.str z))) → mInO 1 (mVar 3) ss rw = some (.dat (.bool false), rw) := fun ss rw h1 h3 => by
  have dvs : ∀ zs : List Str, dVs (zs.map PyData.str) = some (zs.map V.str) := fun zs => by
    induction zs with
    | nil => rfl
    | cons j js ih =>
      rw [List.map_cons]
      unfold dVs
      rw [ih]
      rfl
  have iv : ∀ zs : List Str, z ∉ zs → inV (.str z) (zs.map V.str) = false := fun zs => by
    induction zs with
    | nil => intro _; rfl
    | cons j js ih =>
      intro h
      have q1 : z ≠ j := fun y => h (by rw [y]; exact List.mem_cons_self)
      have q2 := ih fun y => h (List.mem_cons_of_mem _ y)
      unfold inV at q2 ⊢
      rw [List.map_cons, List.any_cons, q2]
      simp [eqV, Ne.symm q1]
  have mv : mVar 3 ss rw = some (.dat (.str z), rw) := by
    unfold mVar
    rw [h3]
  unfold mInO bnd
  rw [mv]
  simp only []
  rw [h1]
  simp only [dV, dvs, iv zs h]
theorem cth_go (A : Sl) : ∀ (ts : List Thing) (zs : List Str) (k : Nat) (s2 s3 s4 : Sl) (rw : Ro), (∀ t ∈ ts, MarksOk t.2) → (∀ t ∈ ts, NameOk t.1) → (zs ++ ts.map (·.1)).Nodup → zs.length + ts.length ≤ 100 →
    ∃ zs' s2' s3' s4', forGo (gTp 2 (gsCons (gNm 2) (gsCons (gTp 2 (gsCons (gNm 3) (gsCons (gNm 4) gsNil))) gsNil))) (sSeq (sIf (mOr (mTst (mInO 1 (mVar 3))) (mOr (mNot (mTst (mCall F_is_name (mCons (mVar 3) mNil)))) (mNot (mTst (mCall F_are_marks (mCons (mVar 4) mNil)))))) sNo sNx) (sApp 1 (mVar 3))) (((ts.map thD).zipIdx k).map fun p => .tuple [.int (p.2 : Nat), p.1]) [A, .own (zs.map .str), s2, s3, s4] rw = some (.nx [A, zs', s2', s3', s4'] rw) := by
  intro ts
  induction ts with
  | nil => intro zs k s2 s3 s4 rw _ _ _ _; exact ⟨_, s2, s3, s4, rfl⟩
  | cons t ts ih =>
    intro zs k s2 s3 s4 rw hm hn hd hl
    have h1 := marks_val1 (hm t List.mem_cons_self)
    have h2 := name_val1 (hn t List.mem_cons_self)
    rw [List.map_cons] at hd
    have nz : t.1 ∉ zs := fun z => by
      rw [List.nodup_append] at hd
      exact hd.2.2 t.1 z t.1 List.mem_cons_self rfl
    rw [List.length_cons] at hl
    obtain ⟨a, b, c, d, e⟩ := ih (zs ++ [t.1]) (k + 1) (.vl (.dat (.int (k : Nat)))) (.vl (.dat (.str t.1))) (.vl (.dat (mkD t.2))) rw (fun z hz => hm z (List.mem_cons_of_mem _ hz)) (fun z hz => hn z (List.mem_cons_of_mem _ hz)) (by rw [List.append_assoc]; exact hd) (by rw [List.length_append]; simp; omega)
    refine ⟨a, b, c, d, ?_⟩
    rw [List.map_cons, List.zipIdx_cons, List.map_cons]
    have st := app_eq (i := 1) (m := mVar 3) (ds := zs.map .str) (d := .str t.1) (ss := [A, .own (zs.map .str), .vl (.dat (.int (k : Nat))), .vl (.dat (.str t.1)), .vl (.dat (mkD t.2))]) (rw := rw) rfl rfl (by rw [List.length_map]; omega)
    rw [forGo_step (ss1 := [A, .own (zs.map .str), .vl (.dat (.int (k : Nat))), .vl (.dat (.str t.1)), .vl (.dat (mkD t.2))]) rfl ((seq_nx ((ifF (rw1 := rw) (or_false (tst_eq (in_names t.1 zs nz _ rw rfl rfl)) (or_false (not_eq (b := true) (tst_eq (call_eq (cons_eq (m := mVar 3) rfl nil_eq) h2))) (not_eq (b := true) (tst_eq (call_eq (cons_eq (m := mVar 4) rfl nil_eq) h1)))))).trans rfl)).trans st)]
    have e9 : (zs.map PyData.str ++ [.str t.1]) = (zs ++ [t.1]).map .str := by rw [List.map_append]; rfl
    rw [e9]
    exact e
theorem check_things_val {ts : List Thing} (h : HouseOk ts) : F_check_things [.dat (thsD ts)] = some (.dat .none) := by
  have l1 := h.l1
  have l3 := h.l3
  obtain ⟨z, a, b, c, e⟩ := cth_go (.vl (.dat (thsD ts))) ts [] 0 .no .no .no (0, 0) h.mks h.nm h.nd (by simp; omega)
  refine bodyP_nx (rw := (0, 0)) rfl ((seq_nx ((ifF (rw1 := (0, 0)) (not_eq (b := true) (tst_eq (chain_eq (g := leD) (g' := leD) (a := mC (.int 1)) (c := mC (.int 3)) rfl (m1_eq (g := lenD) (m := mVar 0) rfl (len_ths ts)) ?_ rfl ?_)))).trans rfl)).trans ((seq_nx (ss1 := [.vl (.dat (thsD ts)), .own [], .no, .no, .no]) (rw1 := (0, 0)) rfl).trans ((for_eq (xs := ((ts.map thD).zipIdx 0).map fun p => .tuple [.int (p.2 : Nat), p.1]) (rw1 := (0, 0)) rfl).trans e)))
  · have : (1 : Int) ≤ (ts.length : Int) := by omega
    simp [leD, i2, leI, this]
  · have : (ts.length : Int) ≤ 3 := by omega
    simp [leD, i2, leI, this]
/-! ### a room of spots of the things -/
inductive RoomIn : List Thing → List Spot → Prop
  | nil : RoomIn [] []
  | cons {t : Thing} {ts : List Thing} {s : Spot} {r : List Spot} (h : s ∈ spotsOf t.2.length) (q : RoomIn ts r) : RoomIn (t :: ts) (s :: r)
theorem RoomIn.ok {ts : List Thing} {r : List Spot} (h : RoomIn ts r) : RoomOk ts.length r := by
  induction h with
  | nil => exact ⟨rfl, fun s hs => by cases hs⟩
  | cons h _ ih =>
    obtain ⟨h1, h2⟩ := ih
    refine ⟨by simp [h1], fun z hz => ?_⟩
    rcases List.mem_cons.mp hz with rfl | hz
    · exact spots_trend h
    · exact h2 z hz
/-! ### check_room -/
theorem eqv_spot (a b : Spot) : PyData.eqv (spD a) (spD b) = decide (a = b) := by
  obtain ⟨a1, a2⟩ := a
  obtain ⟨b1, b2⟩ := b
  simp only [spD, PyData.eqv, PyData.eqvAll, Bool.and_true]
  by_cases h1 : a1 = b1 <;> by_cases h2 : a2 = b2 <;> simp [h1, h2]
theorem canLay_spots : ∀ xs : List Spot, PyData.canLayAll0 (xs.map spD) = true
  | [] => rfl
  | x :: xs => by
    rw [List.map_cons]
    unfold PyData.canLayAll0
    rw [canLay_spots xs]
    rfl
theorem depth_spot (s : Spot) : PyData.depth (spD s) = 1 := by
  unfold spD
  simp [PyData.depth, PyData.depthAll]
theorem depth_spots : ∀ xs : List Spot, PyData.depthAll (xs.map spD) ≤ 1
  | [] => by simp [PyData.depthAll]
  | x :: xs => by
    have := depth_spots xs
    rw [List.map_cons]
    unfold PyData.depthAll
    rw [depth_spot]
    omega
theorem shaped_spots (xs : List Spot) : SeqAt.shaped (.list (xs.map spD)) = true := by
  unfold SeqAt.shaped PyData.canLay0 PyData.depth
  rw [canLay_spots, Bool.true_and, decide_eq_true]
  have := depth_spots xs
  omega
theorem shaped_spot (s : Spot) : SeqAt.shaped (spD s) = true := by
  unfold SeqAt.shaped
  rw [depth_spot]
  rfl
theorem in_spots (s : Spot) (xs : List Spot) : inO (spD s) (.list (xs.map spD)) = some (decide (s ∈ xs)) := by
  have e : inO (spD s) (.list (xs.map spD)) = if SeqAt.shaped (spD s) = true ∧ SeqAt.shaped (.list (xs.map spD)) = true then some ((xs.map spD).any fun z => PyData.eqv z (spD s)) else none := rfl
  rw [e, if_pos ⟨shaped_spot s, shaped_spots xs⟩]
  congr 1
  rw [List.any_map]
  have f : ((fun z => PyData.eqv z (spD s)) ∘ spD) = fun a => decide (a = s) := by
    funext a
    exact eqv_spot a s
  rw [f]
  by_cases h : s ∈ xs
  · rw [decide_eq_true h, List.any_eq_true]
    exact ⟨s, h, by simp⟩
  · rw [decide_eq_false h, List.any_eq_false]
    intro a ha q
    have : a = s := by simpa using q
    subst this
    exact h ha
/-- a room whose first spots are spots, then one that is none -/
inductive BadIn : List Thing → List Spot → Prop
  | here {t : Thing} {ts : List Thing} {s : Spot} {r : List Spot} (h : s ∉ spotsOf t.2.length) : BadIn (t :: ts) (s :: r)
  | there {t : Thing} {ts : List Thing} {s : Spot} {r : List Spot} (h : s ∈ spotsOf t.2.length) (q : BadIn ts r) : BadIn (t :: ts) (s :: r)
abbrev msgS : Mx Vl := mJs [(mC (.str (PySem.Str.ofString "no room: "))), (mFmt (mVar 3)), (mC (.str (PySem.Str.ofString " has no such place and trend")))] PySem.Str.empty
theorem js_cons {m : Mx Vl} {ms : List (Mx Vl)} {acc y : Str} {ss : List Sl} {rw rw1 : Ro} (h1 : m ss rw = some (.dat (.str y), rw1)) (h2 : (acc ++ y).length ≤ 100000) : mJs (m :: ms) acc ss rw = mJs ms (acc ++ y) ss rw1 := by
  show bnd m _ ss rw = _
  unfold bnd
  rw [h1]
  simp only []
  rw [if_pos h2]
theorem msgS_val {z : Str} (hz : z.length ≤ 100) (ss : List Sl) (rw : Ro) (h3 : ss[3]? = some (.vl (.dat (.str z)))) : ∃ y, msgS ss rw = some (.dat (.str y), rw) := by
  have mv : mVar 3 ss rw = some (.dat (.str z), rw) := by
    unfold mVar
    rw [h3]
  have f : mFmt (mVar 3) ss rw = some (.dat (.str z), rw) := by
    unfold mFmt bnd opt
    rw [mv]
    simp only []
    rw [if_pos (by omega)]
  have l1 : (PySem.Str.empty ++ PySem.Str.ofString "no room: ").length = 9 := by decide +kernel
  have l2 : (PySem.Str.ofString " has no such place and trend").length = 28 := by decide +kernel
  refine ⟨PySem.Str.empty ++ PySem.Str.ofString "no room: " ++ z ++ PySem.Str.ofString " has no such place and trend", ?_⟩
  rw [msgS, js_cons (y := PySem.Str.ofString "no room: ") rfl (by rw [l1]; decide), js_cons f (by rw [Str.length_append, l1]; omega), js_cons (y := PySem.Str.ofString " has no such place and trend") rfl (by rw [Str.length_append, Str.length_append, l1, l2]; omega)]
  rfl
abbrev crG : PyData → List Sl → Option (List Sl) := gTp 2 (gsCons (gTp 2 (gsCons (gNm 3) (gsCons (gNm 4) gsNil))) (gsCons (gNm 5) gsNil))
end Law
/-! check_room, broken, odd rooms, refused. -/
namespace Law
open PySem L2 FL
abbrev hsD (ts : List Thing) (ties : List Tie) : Vl := .hse (ts.map thD) (ties.map tieD)
theorem len_room (r : List Spot) : lenD (.dat (rmD r)) = some (.dat (.int (r.length : Nat))) := by
  unfold lenD rmD
  simp only [List.length_map]
theorem len_list (ts : List Thing) : lenD (.dat (.list (ts.map thD))) = some (.dat (.int (ts.length : Nat))) := len_ths ts
theorem ne_len (a b : Nat) : neD (.dat (.int (a : Nat))) (.dat (.int (b : Nat))) = some (.dat (.bool (!decide (a = b)))) := by
  unfold neD
  simp only [eq_int]
  by_cases h : a = b
  · subst h; simp
  · have : ¬ ((a : Int) = (b : Int)) := by omega
    simp [h, this]
abbrev msgL : Mx Vl := mJs [(mC (.str (PySem.Str.ofString "no room: "))), (mFmt (m1 lenD (mVar 1))), (mC (.str (PySem.Str.ofString " of "))), (mFmt (m1 lenD (mVar 2))), (mC (.str (PySem.Str.ofString " things")))] PySem.Str.empty
theorem small_str : ∀ n : Fin 12, (Str.ofString (toString ((n : Nat) : Int))).length ≤ 10 ∧ (((n : Nat) : Int)).natAbs.log2 < 1920 := by decide +kernel
theorem msgL_val {a b : Nat} (ha : a < 12) (hb : b < 12) (ss : List Sl) (rw : Ro) (h1 : m1 lenD (mVar 1) ss rw = some (.dat (.int (a : Nat)), rw)) (h2 : m1 lenD (mVar 2) ss rw = some (.dat (.int (b : Nat)), rw)) : ∃ y, msgL ss rw = some (.dat (.str y), rw) := by
  obtain ⟨sa, la⟩ := small_str ⟨a, ha⟩
  obtain ⟨sb, lb⟩ := small_str ⟨b, hb⟩
  have fa : mFmt (m1 lenD (mVar 1)) ss rw = some (.dat (.str (Str.ofString (toString ((a : Nat) : Int)))), rw) := by
    unfold mFmt
    show bnd (m1 lenD (mVar 1)) _ ss rw = _
    unfold bnd opt
    rw [h1]
    simp only []
    rw [if_pos la]
  have fb : mFmt (m1 lenD (mVar 2)) ss rw = some (.dat (.str (Str.ofString (toString ((b : Nat) : Int)))), rw) := by
    unfold mFmt
    show bnd (m1 lenD (mVar 2)) _ ss rw = _
    unfold bnd opt
    rw [h2]
    simp only []
    rw [if_pos lb]
  have l1 : (PySem.Str.empty ++ PySem.Str.ofString "no room: ").length = 9 := by decide +kernel
  have l2 : (PySem.Str.ofString " of ").length = 4 := by decide +kernel
  have l3 : (PySem.Str.ofString " things").length = 7 := by decide +kernel
  simp only at sa sb
  refine ⟨PySem.Str.empty ++ PySem.Str.ofString "no room: " ++ Str.ofString (toString ((a : Nat) : Int)) ++ PySem.Str.ofString " of " ++ Str.ofString (toString ((b : Nat) : Int)) ++ PySem.Str.ofString " things", ?_⟩
  rw [msgL, js_cons (y := PySem.Str.ofString "no room: ") rfl (by rw [l1]; decide), js_cons fa (by rw [Str.length_append, l1]; omega), js_cons (y := PySem.Str.ofString " of ") rfl (by rw [Str.length_append, Str.length_append, l1, l2]; omega), js_cons fb (by rw [Str.length_append, Str.length_append, Str.length_append, l1, l2]; omega), js_cons (y := PySem.Str.ofString " things") rfl (by rw [Str.length_append, Str.length_append, Str.length_append, Str.length_append, l1, l2, l3]; omega)]
  rfl
theorem raise_eq {c : Nat} {m : Mx Vl} {ss : List Sl} {rw rw1 : Ro} {x : Vl} (h : m ss rw = some (x, rw1)) : sRaise c m ss rw = some (.er ⟨c, []⟩ ss rw1) := by
  unfold sRaise
  rw [h]
theorem dropX_ok {m : Mx Res} {ss : List Sl} {rw rw1 : Ro} {x : Vl} (h : m ss rw = some (.ok x, rw1)) : sDropX m ss rw = some (.nx ss rw1) := by
  unfold sDropX
  rw [h]
theorem dropX_er {m : Mx Res} {ss : List Sl} {rw rw1 : Ro} {x : Exn} (h : m ss rw = some (.er x, rw1)) : sDropX m ss rw = some (.er x ss rw1) := by
  unfold sDropX
  rw [h]
theorem sl_take {r : List Spot} {k : Nat} (h : k ≤ r.length) : slD (.dat (rmD r)) none (some (k : Int)) = some (.dat (rmD (r.take k))) := by
  unfold slD rmD
  simp only []
  have : cutD (r.map spD) none (some (k : Int)) = (r.take k).map spD := by
    unfold cutD
    rw [HT.sIx_none, HT.sIx_nat, List.length_map, Nat.min_eq_left h]
    simp
  rw [this]
theorem sl_drop {r : List Spot} {k : Nat} (h : k ≤ r.length) : slD (.dat (rmD r)) (some (k : Int)) none = some (.dat (rmD (r.drop k))) := by
  unfold slD rmD
  simp only []
  have : cutD (r.map spD) (some (k : Int)) none = (r.drop k).map spD := by
    unfold cutD
    rw [HT.sIx_none, HT.sIx_nat, List.length_map, Nat.min_eq_left h]
    rw [← List.map_drop, List.take_of_length_le (by simp)]
  rw [this]
theorem add_rooms {a b : List Spot} (h : a.length + b.length ≤ 100000) : addD (.dat (rmD a)) (.dat (rmD b)) = some (.dat (rmD (a ++ b))) := by
  unfold addD rmD
  simp only [List.length_map]
  rw [if_pos h, List.map_append]
def oddS (n : Nat) : List Spot := [((2 * n : Int) + 1, 0), (0 - 1, 0), (1, 1), (0, 2), ((2 * n : Int), 0 - 2)]
theorem odd_not : ∀ n : Fin 4, 1 ≤ (n : Nat) → ∀ x ∈ oddS n, x ∉ spotsOf n := by decide +kernel
theorem bad_at {ts : List Thing} {r : List Spot} (h : RoomIn ts r) : ∀ {k : Nat} {t : Thing} {x : Spot}, ts[k]? = some t → x ∉ spotsOf t.2.length → BadIn ts (r.take k ++ [x] ++ r.drop (k + 1)) := by
  induction h with
  | nil => intro k t x hk; simp at hk
  | @cons t0 ts s r h q ih =>
    intro k t x hk hx
    cases k with
    | zero =>
      have : t0 = t := by simpa using hk
      subst this
      exact .here hx
    | succ k => exact .there h (ih (by simpa using hk) hx)
abbrev oddTail : Sx := sSeq (sSet 6 (mList (mLst (mCons (mTup (mCons (m2 addD (mVar 4) (mC (.int 1))) (mCons (mC (.int 0)) mNil))) (mCons (mTup (mCons (m2 subD (mC (.int 0)) (mC (.int 1))) (mCons (mC (.int 0)) mNil))) (mCons (mTup (mCons (mC (.int 1)) (mCons (mC (.int 1)) mNil))) (mCons (mTup (mCons (mC (.int 0)) (mCons (mC (.int 2)) mNil))) (mCons (mTup (mCons (mVar 4) (mCons (m2 subD (mC (.int 0)) (mC (.int 2))) mNil))) mNil)))))))) (sRet (m2 addD (m2 addD (mSl (mVar 2) mNone (mSome (mVar 3))) (mTup (mCons (m2 ixD (mVar 6) (m2 subD (mVar 5) (mC (.int 2)))) mNil))) (mSl (mVar 2) (mSome (m2 addD (mVar 3) (mC (.int 1)))) mNone)))
end Law
/-! Small words of the law's def. -/
namespace Law
open PySem L2 FL
theorem HouseOk.marked {ts : List Thing} (h : HouseOk ts) : Marked ts := fun t ht => ⟨(h.mks t ht).l1, (h.mks t ht).l3⟩
theorem make_eq {F1 F2 : List Vl → Option Vl} {ma : Mx (List Vl)} {ss : List Sl} {rw rw1 : Ro} {ts ties : List PyData} (h1 : ma ss rw = some ([.dat (.list ts), .dat (.list ties)], rw1)) (h2 : F1 [.dat (.list ts)] = some (.dat .none)) (h3 : F2 [.dat (.list ts), .dat (.list ties)] = some (.dat .none)) : mMake F1 F2 ma ss rw = some (.hse ts ties, rw1) := by
  unfold mMake bnd
  rw [h1]
  simp only []
  rw [h2, h3]
  rfl
theorem bor_eq {i : Nat} {m : Mx Bool} {ss : List Sl} {rw rw1 : Ro} {b : Bool} (h : m (noRow (frz i ss)) (0, 0) = some (b, rw1)) : mBor i m ss rw = some (b, rw) := by
  unfold mBor
  rw [h]
theorem ok_eq {m : Mx Res} {ss : List Sl} {rw rw1 : Ro} {x : Vl} (h : m ss rw = some (.ok x, rw1)) : mOk m ss rw = some (x, rw1) := by
  unfold mOk bnd
  rw [h]
  rfl
end Law
/-! All rooms, rooms. -/
namespace Law
open PySem L2 FL
/-! ### odd rooms -/
end Law
/-! How a thing may go on. -/
namespace Law
open PySem L2 FL
/-- whether a thing may go on so, as the law reckons -/
def mayB (s o : Spot) : Bool := (if s.1 % 2 = 0 ∧ s.2 ≠ 0 then [s.1, s.1 + s.2] else [s.1]).any fun e => (decide (e % 2 = 0) && decide (o.1 = e)) || (decide (e % 2 = 1) && (decide (o = (e, 0)) || (decide (o = (e + 1, 1)) || decide (o = (e - 1, -1)))))
def waysB (n : Nat) (s : Spot) : List Spot := (spotsOf n).filter (mayB s)
theorem sp1 : spotsOf 1 = [(0, -1), (0, 0), (0, 1), (1, 0), (2, -1), (2, 0), (2, 1)] := by decide +kernel
theorem sp2 : spotsOf 2 = [(0, -1), (0, 0), (0, 1), (1, 0), (2, -1), (2, 0), (2, 1), (3, 0), (4, -1), (4, 0), (4, 1)] := by decide +kernel
theorem sp3 : spotsOf 3 = [(0, -1), (0, 0), (0, 1), (1, 0), (2, -1), (2, 0), (2, 1), (3, 0), (4, -1), (4, 0), (4, 1), (5, 0), (6, -1), (6, 0), (6, 1)] := by decide +kernel
theorem spots_up {n : Nat} (h : n ≤ 3) {s : Spot} (hs : s ∈ spotsOf n) : s ∈ spotsOf 3 := by
  have all : ∀ n : Fin 4, ∀ s ∈ spotsOf n, s ∈ spotsOf 3 := by decide +kernel
  exact all ⟨n, by omega⟩ s hs
theorem may_self : ∀ n : Fin 4, ∀ s ∈ spotsOf n, mayB s s = true := by decide +kernel
theorem ways_len {n : Nat} (h : n ≤ 3) (s : Spot) : (waysB n s).length ≤ 15 := Nat.le_trans (List.length_filter_le _ _) (spots_len h).1
/-! ### one of each list, by its parts -/
inductive All2 : List Spot → List (List Spot) → Prop
  | nil : All2 [] []
  | cons {s : Spot} {r : List Spot} {c : List Spot} {cs : List (List Spot)} (h : s ∈ c) (q : All2 r cs) : All2 (s :: r) (c :: cs)
theorem mem_prodC : ∀ {cs : List (List Spot)} {found : List (List Spot)} {x : List Spot}, x ∈ prodC cs found ↔ ∃ q ∈ found, ∃ z, x = q ++ z ∧ All2 z cs
  | [], found, x => by
    constructor
    · intro h
      exact ⟨x, h, [], by simp, .nil⟩
    · rintro ⟨q, hq, z, rfl, hz⟩
      cases hz
      rw [List.append_nil]
      exact hq
  | c :: cs, found, x => by
    show x ∈ prodC cs (growC found c) ↔ _
    rw [mem_prodC]
    constructor
    · rintro ⟨q, hq, z, rfl, hz⟩
      obtain ⟨p, hp, s, hs, rfl⟩ := growC_mem.mp hq
      exact ⟨p, hp, s :: z, by simp, .cons hs hz⟩
    · rintro ⟨q, hq, z, rfl, hz⟩
      cases hz with
      | cons h1 h2 => exact ⟨q ++ [_], growC_mem.mpr ⟨q, hq, _, h1, rfl⟩, _, by simp, h2⟩
theorem prod_in {cs : List (List Spot)} {x : List Spot} (h : x ∈ prodC cs [[]]) : All2 x cs := by
  obtain ⟨q, hq, z, e, hz⟩ := mem_prodC.mp h
  simp at hq
  subst hq
  rw [e, List.nil_append]
  exact hz
theorem in_of_all2 : ∀ {ts : List Thing} {x : List Spot} {cs : List (List Spot)}, All2 x cs → (cs.length = ts.length) → (∀ p ∈ ts.zip cs, ∀ s ∈ p.2, s ∈ spotsOf p.1.2.length) → RoomIn ts x
  | [], _, _, .nil, _, _ => .nil
  | t :: ts, _, _, .nil, h, _ => by cases h
  | [], _, _, .cons _ _, h, _ => by cases h
  | t :: ts, _, _, .cons h q, hl, hc => .cons (hc (t, _) List.mem_cons_self _ h) (in_of_all2 q (by simpa using hl) fun p hp => hc p (List.mem_cons_of_mem _ hp))
theorem all_in {ts : List Thing} {r : List Spot} (h : r ∈ allR ts) : RoomIn ts r := by
  unfold allR at h
  rw [← prodC_go] at h
  refine in_of_all2 (prod_in h) (by rw [List.length_map]) fun p hp s hs => ?_
  have : ∀ ts : List Thing, ∀ p ∈ ts.zip (ts.map fun t => spotsOf t.2.length), p.2 = spotsOf p.1.2.length := fun ts => by
    induction ts with
    | nil => intro p hp; cases hp
    | cons t ts ih =>
      intro p hp
      rw [List.map_cons, List.zip_cons_cons] at hp
      rcases List.mem_cons.mp hp with z | z
      · rw [z]
      · exact ih p z
  rw [this ts p hp] at hs
  exact hs
/-! ### rooms compared -/
theorem eqvAll_spots : ∀ a b : List Spot, PyData.eqvAll (a.map spD) (b.map spD) = decide (a = b)
  | [], [] => by simp [PyData.eqvAll]
  | [], y :: b => by simp [PyData.eqvAll]
  | x :: a, [] => by simp [PyData.eqvAll]
  | x :: a, y :: b => by
    rw [List.map_cons, List.map_cons]
    unfold PyData.eqvAll
    rw [eqv_spot, eqvAll_spots a b]
    by_cases h : x = y <;> by_cases g : a = b <;> simp [h, g]
theorem shaped_room (xs : List Spot) : SeqAt.shaped (rmD xs) = true := by
  unfold SeqAt.shaped rmD PyData.canLay0 PyData.depth
  rw [canLay_spots, Bool.true_and, decide_eq_true]
  have := depth_spots xs
  omega
theorem eq_rooms (a b : List Spot) : eqO (rmD a) (rmD b) = some (decide (a = b)) := by
  have e : eqO (rmD a) (rmD b) = if SeqAt.shaped (rmD a) = true ∧ SeqAt.shaped (rmD b) = true then some (PyData.eqv (rmD a) (rmD b)) else none := rfl
  rw [e, if_pos ⟨shaped_room a, shaped_room b⟩]
  congr 1
  show PyData.eqv (.tuple (a.map spD)) (.tuple (b.map spD)) = _
  unfold PyData.eqv
  exact eqvAll_spots a b
theorem ne_rooms (a b : List Spot) : neD (.dat (rmD a)) (.dat (rmD b)) = some (.dat (.bool (!decide (a = b)))) := by
  unfold neD
  simp only [eq_rooms]
theorem depth_room (r : List Spot) : PyData.depth (rmD r) ≤ 2 := by
  unfold rmD PyData.depth
  have := depth_spots r
  omega
theorem canLay_rooms : ∀ xs : List (List Spot), PyData.canLayAll0 (xs.map rmD) = true
  | [] => rfl
  | x :: xs => by
    rw [List.map_cons]
    unfold PyData.canLayAll0
    rw [canLay_rooms xs]
    unfold rmD PyData.canLay0
    rw [canLay_spots]
    rfl
theorem depth_rooms : ∀ xs : List (List Spot), PyData.depthAll (xs.map rmD) ≤ 2
  | [] => by simp [PyData.depthAll]
  | x :: xs => by
    have := depth_rooms xs
    have h := depth_room x
    rw [List.map_cons]
    unfold PyData.depthAll
    omega
theorem shaped_rooms (xs : List (List Spot)) : SeqAt.shaped (.list (xs.map rmD)) = true := by
  unfold SeqAt.shaped PyData.canLay0 PyData.depth
  rw [canLay_rooms, Bool.true_and, decide_eq_true]
  have := depth_rooms xs
  omega
theorem ne_nilr (xs : List (List Spot)) : neD (.dat (.list (xs.map rmD))) (.dat (.list [])) = some (.dat (.bool (!xs.isEmpty))) := by
  have e : eqO (.list (xs.map rmD)) (.list []) = if SeqAt.shaped (.list (xs.map rmD)) = true ∧ SeqAt.shaped (.list []) = true then some (PyData.eqv (.list (xs.map rmD)) (.list [])) else none := rfl
  unfold neD
  rw [if_pos ⟨shaped_rooms xs, shaped_rooms []⟩] at e
  simp only [e]
  cases xs <;> simp [PyData.eqv, PyData.eqvAll]
end Law
/-! What comes next: the program's, the law's. -/
namespace Law
open PySem L2 FL
theorem and_eq {a b : Mx Bool} {ss : List Sl} {rw : Ro} {x y : Bool} (h1 : a ss rw = some (x, rw)) (h2 : b ss rw = some (y, rw)) : mAnd a b ss rw = some (x && y, rw) := by
  unfold mAnd bnd
  rw [h1]
  cases x
  · rfl
  · exact h2
theorem zp_map : ∀ (ts : List Thing) (r : List Spot), zpD (ts.map thD) (r.map spD) = (ts.zip r).map fun p => .tuple [thD p.1, spD p.2]
  | [], [] => rfl
  | [], _ :: _ => rfl
  | _ :: _, [] => rfl
  | t :: ts, s :: r => by
    rw [List.map_cons, List.map_cons, List.zip_cons_cons, List.map_cons, ← zp_map ts r]
    rfl
theorem zip_in {ts : List Thing} {r : List Spot} (h : RoomIn ts r) : ∀ p ∈ ts.zip r, p.2 ∈ spotsOf p.1.2.length ∧ p.1 ∈ ts := by
  induction h with
  | nil => intro p hp; cases hp
  | cons h _ ih =>
    intro p hp
    rw [List.zip_cons_cons] at hp
    rcases List.mem_cons.mp hp with z | z
    · rw [z]; exact ⟨h, List.mem_cons_self⟩
    · exact ⟨(ih p z).1, List.mem_cons_of_mem _ (ih p z).2⟩
def waysL (ts : List Thing) (r : List Spot) : List (List Spot) := (ts.zip r).map fun p => waysB p.1.2.length p.2
def nextP (ties : List Tie) (r o : List Spot) : Bool := !decide (o = r) && (firstB o ties 0).isNone
def nextsB (ts : List Thing) (ties : List Tie) (r : List Spot) : List (List Spot) := (prodC (waysL ts r) [[]]).filter (nextP ties r)
theorem all2_in {ts : List Thing} {r : List Spot} (h : RoomIn ts r) : ∀ o, All2 o (waysL ts r) → RoomIn ts o := by
  induction h with
  | nil => intro o ho; cases ho; exact .nil
  | cons h _ ih =>
    intro o ho
    cases ho with
    | cons h1 h2 => exact .cons (List.mem_filter.mp h1).1 (ih _ h2)
theorem ways_in {ts : List Thing} {r o : List Spot} (h : RoomIn ts r) (ho : o ∈ prodC (waysL ts r) [[]]) : RoomIn ts o := all2_in h o (prod_in ho)
theorem next_in {ts : List Thing} {ties : List Tie} {r o : List Spot} (h : RoomIn ts r) (ho : o ∈ nextsB ts ties r) : RoomIn ts o := ways_in h (List.mem_filter.mp ho).1
theorem waysL_len {ts : List Thing} {r : List Spot} (h : RoomIn ts r) : (waysL ts r).length = ts.length := by
  unfold waysL
  rw [List.length_map, List.length_zip, h.ok.1, Nat.min_self]
theorem waysL_15 {ts : List Thing} {r : List Spot} (hm : Marked ts) (h : RoomIn ts r) : ∀ c ∈ waysL ts r, c.length ≤ 15 := fun c hc => by
  obtain ⟨p, hp, rfl⟩ := List.mem_map.mp hc
  exact ways_len (hm _ (zip_in h p hp).2).2 _
theorem prodC_len : ∀ (cs : List (List Spot)) (found : List (List Spot)), (∀ c ∈ cs, c.length ≤ 15) → (prodC cs found).length ≤ found.length * 15 ^ cs.length
  | [], found, _ => by simp [prodC]
  | c :: cs, found, h => by
    have ih := prodC_len cs (growC found c) fun q hq => h q (List.mem_cons_of_mem _ hq)
    have g := growC_len (found := found) (h c List.mem_cons_self)
    have : (growC found c).length * 15 ^ cs.length ≤ found.length * 15 * 15 ^ cs.length := Nat.mul_le_mul_right _ g
    rw [List.length_cons, Nat.pow_succ, Nat.mul_comm (15 ^ cs.length) 15, ← Nat.mul_assoc]
    exact Nat.le_trans ih this
theorem prod_few {ts : List Thing} {r : List Spot} (hm : Marked ts) (hl : ts.length ≤ 3) (h : RoomIn ts r) : (prodC (waysL ts r) [[]]).length ≤ 3375 := by
  have g := prodC_len (waysL ts r) [[]] (waysL_15 hm h)
  rw [waysL_len h] at g
  have p : (15 : Nat) ^ ts.length ≤ 15 ^ 3 := Nat.pow_le_pow_right (by decide) hl
  have : (prodC (waysL ts r) [[]]).length ≤ 1 * 15 ^ ts.length := g
  omega
/-! ### the program's -/
abbrev S8 (ts : List Thing) (ties : List Tie) (r : List Spot) (a b : Sl) : List Sl := [.vl (hsD ts ties), .vl (.dat (rmD r)), a, b, .no, .no, .no, .no]
/-! ### the law's -/
theorem lgrow2_go {A B C D E : Sl} {c : List Spot} (hc : c.length ≤ 15) {rw : Ro} (found : List (List Spot)) : ∀ (acc : List (List Spot)) (s7 : Sl), (∀ r ∈ found, r.length ≤ 10) → acc.length + found.length * 15 ≤ 100000 →
    ∃ s7', forGo (gNm 7) (sExt 6 (mList (mLc [8] (mSeq (mVar 5)) (gNm 8) mYes (m2 addD (mVar 7) (mTup (mCons (mVar 8) mNil)))))) (found.map rmD) [A, B, C, D, E, .vl (.dat (chD c)), .own (acc.map rmD), s7, .no, .no] rw =
      some (.nx [A, B, C, D, E, .vl (.dat (chD c)), .own ((acc ++ growC found c).map rmD), s7', .no, .no] rw) := by
  induction found with
  | nil => intro acc s7 _ _; exact ⟨s7, by rw [growC, List.flatMap_nil, List.append_nil]; rfl⟩
  | cons r found ih =>
    intro acc s7 h hn
    rw [List.length_cons] at hn
    have hr := h r List.mem_cons_self
    obtain ⟨s7', ih⟩ := ih (acc ++ c.map fun s => r ++ [s]) (.vl (.dat (rmD r))) (fun q hq => h q (List.mem_cons_of_mem _ hq)) (by rw [List.length_append, List.length_map]; omega)
    refine ⟨s7', ?_⟩
    have inner := lcGo_map (g := gNm 8) (tt := mYes) (te := m2 addD (mVar 7) (mTup (mCons (mVar 8) mNil))) (ss := [A, B, C, D, E, .vl (.dat (chD c)), .own (acc.map rmD), .vl (.dat (rmD r)), .no, .no]) (rw := rw) spD (fun s => rmD (r ++ [s])) (fun _ => true) c fun s _ => by
      refine ⟨[A, B, C, D, E, .vl (.dat (chD c)), .own (acc.map rmD), .vl (.dat (rmD r)), .vl (.dat (spD s)), .no], rfl, rfl, fun _ => ?_⟩
      have ea := room_add s hr
      simp [m2, mTup, mCons, mNil, mVar, bnd, opt, pur, dats, ea]
    rw [List.filter_eq_self.mpr (fun _ _ => rfl)] at inner
    have lc := (lc_eq (vs := [8]) (mi := mSeq (mVar 5)) (g := gNm 8) (tt := mYes) (te := m2 addD (mVar 7) (mTup (mCons (mVar 8) mNil))) (ss := [A, B, C, D, E, .vl (.dat (chD c)), .own (acc.map rmD), .vl (.dat (rmD r)), .no, .no]) (rw := rw) (xs := c.map spD) (by simp [noOwn]) rfl (by rw [List.length_map]; omega)).trans inner
    have st := ext_eq (i := 6) (ss := [A, B, C, D, E, .vl (.dat (chD c)), .own (acc.map rmD), .vl (.dat (rmD r)), .no, .no]) rfl (list_eq lc) (by rw [List.length_map, List.length_map]; omega)
    rw [List.map_cons, forGo_step (ss1 := [A, B, C, D, E, .vl (.dat (chD c)), .own (acc.map rmD), .vl (.dat (rmD r)), .no, .no]) (by simp [gNm, putS]) st]
    have e1 : (acc.map rmD ++ c.map fun s => rmD (r ++ [s])) = (acc ++ c.map fun s => r ++ [s]).map rmD := by
      rw [List.map_append, List.map_map]
      rfl
    have e2 : [A, B, C, D, E, .vl (.dat (chD c)), .own (acc.map rmD), .vl (.dat (rmD r)), .no, .no].set 6 (.own (acc.map rmD ++ c.map fun s => rmD (r ++ [s]))) = [A, B, C, D, E, .vl (.dat (chD c)), .own ((acc ++ c.map fun s => r ++ [s]).map rmD), .vl (.dat (rmD r)), .no, .no] := by
      rw [e1]
      rfl
    rw [e2, ih]
    simp [growC]
theorem room_ix {r : List Spot} {k : Nat} {s : Spot} (h : r[k]? = some s) : ixD (.dat (rmD r)) (.dat (.int (k : Nat))) = some (.dat (spD s)) := by
  have := atI_mapD spD h
  unfold ixD rmD
  simp only [this]
end Law
/-! Drawn rooms; why another one can't come next. -/
namespace Law
open PySem L2 FL
theorem and_true {a b : Mx Bool} {ss : List Sl} {rw rw1 : Ro} {x : Option (Bool × Ro)} (h1 : a ss rw = some (true, rw1)) (h2 : b ss rw1 = x) : mAnd a b ss rw = x := by
  unfold mAnd bnd
  rw [h1]
  exact h2
theorem and_false {a b : Mx Bool} {ss : List Sl} {rw rw1 : Ro} (h1 : a ss rw = some (false, rw1)) : mAnd a b ss rw = some (false, rw1) := by
  unfold mAnd bnd
  rw [h1]
  rfl
theorem len_rooms (rs : List (List Spot)) : lenD (.dat (.list (rs.map rmD))) = some (.dat (.int (rs.length : Nat))) := by
  unfold lenD
  simp only [List.length_map]
/-- one of a list of rooms, drawn -/
theorem pick_room (ns : List Int) {rs : List (List Spot)} (hne : rs ≠ []) {i : Nat} {ss : List Sl} {rw : Ro} (h0 : ss[0]? = some .row) (h : 0 ≤ rw.1) (hi : mVar i ss = fun rw => some (.dat (.list (rs.map rmD)), rw)) :
    ∃ r rw', m2 ixD (mVar i) (mCallR 0 (F__law_taken ns) (mCons (m1 lenD (mVar i)) mNil)) ss rw = some (.dat (rmD r), rw') ∧ r ∈ rs ∧ 0 ≤ rw'.1 := by
  have hpos : 0 < rs.length := List.length_pos_iff.mpr hne
  obtain ⟨v, rw1, e1, v0, v1, r1⟩ := draw (ns := ns) (i := 0) (ma := mCons (m1 lenD (mVar i)) mNil) (ss := ss) (rw := rw) (m := (rs.length : Nat)) h0 (cons_eq (m1_eq (g := lenD) (m := mVar i) (by rw [hi]) (len_rooms rs)) nil_eq) (by omega) h
  obtain ⟨j, rfl⟩ : ∃ j : Nat, v = (j : Int) := ⟨v.toNat, by omega⟩
  obtain ⟨r, hr⟩ : ∃ r, rs[j]? = some r := ⟨_, List.getElem?_eq_getElem (by omega)⟩
  have ax := atI_mapD rmD hr
  exact ⟨r, rw1, m2_eq (g := ixD) (m := mVar i) (by rw [hi]) e1 (by unfold ixD; simp only [ax]), List.mem_of_getElem? hr, r1⟩
theorem gt0 (u : Int) : gtD (.dat (.int u)) (.dat (.int 0)) = some (.dat (.bool (decide (0 < u)))) := rfl
/-! ### another room, drawn -/
theorem ways_self {n : Nat} (h : n ≤ 3) {s : Spot} (hs : s ∈ spotsOf n) : s ∈ waysB n s := List.mem_filter.mpr ⟨hs, may_self ⟨n, by omega⟩ s hs⟩
theorem ways_at {ts : List Thing} {r : List Spot} {k : Nat} {t : Thing} {s : Spot} (ht : ts[k]? = some t) (hs : r[k]? = some s) : (waysL ts r).drop k = waysB t.2.length s :: (waysL ts r).drop (k + 1) := by
  have hz : (ts.zip r)[k]? = some (t, s) := by
    rw [List.getElem?_zip_eq_some]
    exact ⟨ht, hs⟩
  have e : (waysL ts r)[k]? = some (waysB t.2.length s) := by
    unfold waysL
    rw [List.getElem?_map, hz]
    rfl
  have hk' := (List.getElem?_eq_some_iff.mp e)
  rw [List.drop_eq_getElem_cons hk'.1, hk'.2]
/-! ### why not -/
def firstTh : List (Spot × Spot) → Nat → Option Nat
  | [], _ => none
  | p :: ps, k => if mayB p.1 p.2 = true then firstTh ps (k + 1) else some k
def whyD (ties : List Tie) (r o : List Spot) : PyData := if r = o then .tuple [.str (PySem.Str.ofString "same"), .int 0] else match firstTh (r.zip o) 0 with
  | some k => .tuple [.str (PySem.Str.ofString "thing"), .int (k : Nat)]
  | none => match firstB o ties 0 with
    | none => .none
    | some i => .tuple [.str (PySem.Str.ofString "tie"), .int (i : Nat)]
theorem eq_roomsD (a b : List Spot) : eqD (.dat (rmD a)) (.dat (rmD b)) = some (.dat (.bool (decide (a = b)))) := by
  unfold eqD
  simp only [eq_rooms]
theorem nin_ways {n : Nat} {s o : Spot} (ho : o ∈ spotsOf n) : ninD (.dat (spD o)) (.dat (chD (waysB n s))) = some (.dat (.bool (!mayB s o))) := by
  have e : decide (o ∈ waysB n s) = mayB s o := by
    have q : o ∈ waysB n s ↔ mayB s o = true := by
      unfold waysB
      rw [List.mem_filter]
      exact ⟨fun z => z.2, fun z => ⟨ho, z⟩⟩
    cases f : mayB s o with
    | true => exact decide_eq_true (q.mpr f)
    | false => exact decide_eq_false fun z => by rw [q.mp z] at f; cases f
  unfold ninD chD
  simp only [in_spots, e]
theorem zip_at {r o : List Spot} {k : Nat} {s u : Spot} (hs : r[k]? = some s) (hu : o[k]? = some u) : (r.zip o).drop k = (s, u) :: (r.zip o).drop (k + 1) := by
  have hz : (r.zip o)[k]? = some (s, u) := by
    rw [List.getElem?_zip_eq_some]
    exact ⟨hs, hu⟩
  have hk' := (List.getElem?_eq_some_iff.mp hz)
  rw [List.drop_eq_getElem_cons hk'.1, hk'.2]
theorem spot_at {ts : List Thing} {r : List Spot} (h : RoomIn ts r) {k : Nat} {t : Thing} (ht : ts[k]? = some t) : ∃ s, r[k]? = some s ∧ s ∈ spotsOf t.2.length := by
  obtain ⟨s, hs⟩ : ∃ s, r[k]? = some s := ⟨_, List.getElem?_eq_getElem (by rw [h.ok.1]; exact (List.getElem?_eq_some_iff.mp ht).1)⟩
  have hz : (ts.zip r)[k]? = some (t, s) := by
    rw [List.getElem?_zip_eq_some]
    exact ⟨ht, hs⟩
  exact ⟨s, hs, (zip_in h _ (List.mem_of_getElem? hz)).1⟩
abbrev wyG : PyData → List Sl → Option (List Sl) := gTp 2 (gsCons (gNm 3) (gsCons (gTp 2 (gsCons (gNm 4) (gsCons (gNm 5) gsNil))) gsNil))
end Law
/-! Runs: the program's rooms of an hour. -/
namespace Law
open PySem L2 FL
def rowD (r : List Int) : PyData := .tuple (r.map .int)
def Small (x : Int) : Prop := -100000 ≤ x ∧ x ≤ 100000
def Smalls (r : List Int) : Prop := ∀ x ∈ r, Small x
theorem Small.sub {a b : Int} (h : Small a) (g : Small b) : (a - b).natAbs < 2 ^ 64 := by
  unfold Small at h g
  omega
theorem Small.abs {a : Int} (h : Small a) : a.natAbs < 2 ^ 64 := by
  unfold Small at h
  omega
theorem mul_l {a b : Int} (h : a.natAbs < 2 ^ 64) : mulD (.dat (.int a)) (.dat (.int b)) = some (.dat (.int (a * b))) := by
  unfold mulD
  simp only []
  rw [if_pos (.inl h)]
theorem mul_r {a b : Int} (h : b.natAbs < 2 ^ 64) : mulD (.dat (.int a)) (.dat (.int b)) = some (.dat (.int (a * b))) := by
  unfold mulD
  simp only []
  rw [if_pos (.inr h)]
abbrev Tri := List Int × Int × Int
def tri : List (List Int) → List Int → List Int → List Tri
  | ms :: mss, a :: as, b :: bs => (ms, a, b) :: tri mss as bs
  | _, _, _ => []
def triD (p : Tri) : PyData := .tuple [mkD p.1, .int p.2.1, .int p.2.2]
theorem zp3_map : ∀ (mss : List (List Int)) (a b : List Int), zpD3 (mss.map mkD) (a.map .int) (b.map .int) = (tri mss a b).map triD
  | [], _, _ => by simp [zpD3, tri]
  | _ :: _, [], _ => by simp [zpD3, tri]
  | _ :: _, _ :: _, [] => by simp [zpD3, tri]
  | m :: mss, a :: as, b :: bs => by
    have ih := zp3_map mss as bs
    rw [List.map_cons, List.map_cons, List.map_cons]
    unfold zpD3 tri
    rw [ih]
    rfl
theorem zpi_map : ∀ (a b : List Int), zpD (a.map .int) (b.map .int) = (a.zip b).map fun p => .tuple [.int p.1, .int p.2]
  | [], _ => by simp [zpD]
  | _ :: _, [] => by simp [zpD]
  | a :: as, b :: bs => by
    have ih := zpi_map as bs
    rw [List.map_cons, List.map_cons, List.zip_cons_cons, List.map_cons]
    unfold zpD
    rw [ih]
/-! ### parts -/
def absI (i : Int) : Int := if i < 0 then -i else i
def stepP (P : Int) (p : Int × Int) : Int := if p.1 = p.2 then P else P * absI (p.2 - p.1)
def partsOf (ps : List (Int × Int)) (P : Int) : Int := ps.foldl stepP P
theorem ne_int (a b : Int) : neD (.dat (.int a)) (.dat (.int b)) = some (.dat (.bool (!decide (a = b)))) := by
  unfold neD
  simp only [eq_int]
theorem absI_small {a b : Int} (h : Small a) (g : Small b) : (absI (b - a)).natAbs < 2 ^ 64 := by
  unfold absI Small at *
  split <;> omega
abbrev paG : PyData → List Sl → Option (List Sl) := gTp 2 (gsCons (gNm 3) (gsCons (gNm 4) gsNil))
abbrev paB : Sx := sIf (mTst (m2 neD (mVar 3) (mVar 4))) (sSet 2 (m2 mulD (mVar 2) (m1 absD (m2 subD (mVar 4) (mVar 3))))) sNx
theorem parts_go (A B : Sl) : ∀ (ps : List (Int × Int)) (P : Int) (s3 s4 : Sl) (rw : Ro), (∀ p ∈ ps, Small p.1 ∧ Small p.2) →
    ∃ s3' s4', forGo paG paB (ps.map fun p => .tuple [.int p.1, .int p.2]) [A, B, .vl (.dat (.int P)), s3, s4] rw = some (.nx [A, B, .vl (.dat (.int (partsOf ps P))), s3', s4'] rw) := by
  intro ps
  induction ps with
  | nil => intro P s3 s4 rw _; exact ⟨s3, s4, rfl⟩
  | cons p ps ih =>
    intro P s3 s4 rw h
    obtain ⟨h1, h2⟩ := h p List.mem_cons_self
    obtain ⟨a, b, e⟩ := ih (stepP P p) (.vl (.dat (.int p.1))) (.vl (.dat (.int p.2))) rw fun q hq => h q (List.mem_cons_of_mem _ hq)
    refine ⟨a, b, ?_⟩
    have tv : mTst (m2 neD (mVar 3) (mVar 4)) [A, B, .vl (.dat (.int P)), .vl (.dat (.int p.1)), .vl (.dat (.int p.2))] rw = some (!decide (p.1 = p.2), rw) := tst_eq (m2_eq (g := neD) (m := mVar 3) (n := mVar 4) rfl rfl (ne_int _ _))
    have st : paB [A, B, .vl (.dat (.int P)), .vl (.dat (.int p.1)), .vl (.dat (.int p.2))] rw = some (.nx [A, B, .vl (.dat (.int (stepP P p))), .vl (.dat (.int p.1)), .vl (.dat (.int p.2))] rw) := by
      unfold stepP
      by_cases hp : p.1 = p.2
      · rw [if_pos hp]
        rw [decide_eq_true hp] at tv
        exact (ifF tv).trans rfl
      · rw [if_neg hp]
        rw [decide_eq_false hp] at tv
        exact (ifT tv).trans (set_eq (i := 2) (m2_eq (g := mulD) (m := mVar 2) rfl (m1_eq (g := absD) (y := .dat (.int (absI (p.2 - p.1)))) (m2_eq (g := subD) (m := mVar 4) (n := mVar 3) rfl rfl rfl) rfl) (mul_r (absI_small h1 h2))) (by simp))
    rw [List.map_cons, forGo_step (ss1 := [A, B, .vl (.dat (.int P)), .vl (.dat (.int p.1)), .vl (.dat (.int p.2))]) rfl st]
    exact e
theorem zip_small {a b : List Int} (ha : Smalls a) (hb : Smalls b) : ∀ p ∈ a.zip b, Small p.1 ∧ Small p.2 := fun p hp => ⟨ha _ (List.of_mem_zip hp).1, hb _ (List.of_mem_zip hp).2⟩
theorem parts_val {a b : List Int} (ha : Smalls a) (hb : Smalls b) : F_parts_of_hour [.dat (rowD a), .dat (rowD b)] = some (.dat (.int (partsOf (a.zip b) 1))) := by
  obtain ⟨x, y, e⟩ := parts_go (.vl (.dat (rowD a))) (.vl (.dat (rowD b))) (a.zip b) 1 .no .no (0, 0) (zip_small ha hb)
  rw [← zpi_map] at e
  exact bodyP_rt (rw := (0, 0)) rfl ((seq_nx (ss1 := [.vl (.dat (rowD a)), .vl (.dat (rowD b)), .vl (.dat (.int 1)), .no, .no]) (rw1 := (0, 0)) rfl).trans ((seq_nx ((for_eq (xs := zpD (a.map .int) (b.map .int)) (rw1 := (0, 0)) rfl).trans e)).trans rfl))
/-! ### places, states -/
def cntLt (ms : List Int) (n : Int) : Nat := (ms.filter fun m => decide (m < n)).length
def placeOf (ms : List Int) (n : Int) : Int := if n ∈ ms then 2 * (cntLt ms n : Nat) + 1 else 2 * (cntLt ms n : Nat)
def stOf (ms : List Int) (n tr : Int) : Spot := if placeOf ms n % 2 = 1 then (placeOf ms n + tr, tr) else (placeOf ms n, tr)
theorem dvs_ints : ∀ js : List Int, dVs (js.map PyData.int) = some (js.map V.int)
  | [] => rfl
  | j :: js => by
    rw [List.map_cons]
    unfold dVs
    rw [dvs_ints js]
    rfl
theorem inV_ints (i : Int) : ∀ js : List Int, inV (.int i) (js.map V.int) = decide (i ∈ js)
  | [] => rfl
  | j :: js => by
    have ih := inV_ints i js
    unfold inV at ih ⊢
    rw [List.map_cons, List.any_cons, ih]
    by_cases h : j = i
    · subst h; simp [eqV]
    · have h' : ¬ i = j := fun z => h z.symm
      simp [eqV, h, h']
theorem in_ints (i : Int) (js : List Int) : inD (.dat (.int i)) (.dat (.list (js.map .int))) = some (.dat (.bool (decide (i ∈ js)))) := by
  have e : inO (.int i) (.list (js.map .int)) = some (decide (i ∈ js)) := by
    unfold inO
    simp only [dV, dvs_ints, inV_ints]
  unfold inD
  simp only [e]
theorem isMark_val (p : Int) : F_is_mark [.dat (.int p)] = some (.dat (.bool (decide (p % 2 = 1)))) := by
  simp [F_is_mark, m_is_mark, bodyP, bodyL, bodyR, bodyX, bodyT, slots, slotsR, ssT, sSeq, sIf, sNx, sRet, sRetL, sRetO, sRetX, sSet, sSetX, sOwn, sApp, sExt, sClr, sDrop, sDropX, sTgt, sFor, sFrz, frz, sRow, sTry, sRaise, noAt, noRow, mBor, mTst, mAnd, mOr, mNot, mIf, mAndV, mOrV, mNotV, mChain, m1, m2, bnd, opt, pur, mVar, mC, mCons, mNil, mTup, mLst, mList, mCall, mCallL, mCallX, mCallR, mOk, mHse, mMake, mSl, mSome, mNone, mSeq, mEn, mRg1, mRg2, mZ3, mLc, mLc2, mYes, mIxV, mInO, mRow1, mRow2, mRowLen, mRowAt, dats, putS, gNm, gTp, gsCons, gsNil, seqD, addD, subD, subI, mulD, fdivD, fdivI, modD, modI, negD, i2, ltD, ltI, leD, leI, gtD, gtI, geD, geI, eqD, neD, isND, notND, inD, ninD, ixD, slD, lenD, tupleD, listD, intD, lstD, isiD, isi2D, tyN, isTy, noOwn, wipeS, eq_int]
theorem placeOf_val {ms : List Int} (n : Int) (hl : ms.length ≤ 1000) : F_place_of [.dat (.list (ms.map .int)), .dat (.int n)] = some (.dat (.int (placeOf ms n))) := by
  have go := lcGo_map (g := gNm 3) (tt := mTst (m2 ltD (mVar 3) (mVar 1))) (te := mVar 3) (ss := [.vl (.dat (.list (ms.map .int))), .vl (.dat (.int n)), .no, .no]) (rw := (0, 0)) PyData.int PyData.int (fun m => decide (m < n)) ms fun m _ =>
    ⟨[.vl (.dat (.list (ms.map .int))), .vl (.dat (.int n)), .no, .vl (.dat (.int m))], rfl, tst_eq (m2_eq (g := ltD) (m := mVar 3) (n := mVar 1) rfl rfl rfl), fun _ => rfl⟩
  have lc := (lc_eq (vs := [3]) (mi := mSeq (mVar 0)) (ss := [.vl (.dat (.list (ms.map .int))), .vl (.dat (.int n)), .no, .no]) (rw := (0, 0)) (rw1 := (0, 0)) (xs := ms.map .int) rfl rfl (by rw [List.length_map]; omega)).trans go
  have ln := m1_eq (g := lenD) (y := .dat (.int ((cntLt ms n : Nat) : Int))) (list_eq lc) (by unfold lenD cntLt; simp only [List.length_map])
  have st := set_eq (i := 2) ln (by simp)
  refine bodyP_rt (rw := (0, 0)) rfl ((seq_nx st).trans ?_)
  have ti : mTst (m2 inD (mVar 1) (mVar 0)) [.vl (.dat (.list (ms.map .int))), .vl (.dat (.int n)), .vl (.dat (.int ((cntLt ms n : Nat) : Int))), .no] (0, 0) = some (decide (n ∈ ms), (0, 0)) := tst_eq (m2_eq (g := inD) (m := mVar 1) (n := mVar 0) rfl rfl (in_ints n ms))
  have r : mIf (mTst (m2 inD (mVar 1) (mVar 0))) (mCall F_mark_place (mCons (mVar 2) mNil)) (m2 mulD (mC (.int 2)) (mVar 2)) [.vl (.dat (.list (ms.map .int))), .vl (.dat (.int n)), .vl (.dat (.int ((cntLt ms n : Nat) : Int))), .no] (0, 0) = some (.dat (.int (placeOf ms n)), (0, 0)) := by
    unfold mIf bnd placeOf
    rw [ti]
    by_cases h : n ∈ ms
    · rw [decide_eq_true h, if_pos h]
      exact call_eq rfl (mark_val _)
    · rw [decide_eq_false h, if_neg h]
      exact m2_eq (g := mulD) (m := mC (.int 2)) (n := mVar 2) rfl rfl (mul_l (by decide))
  exact ret_eq r
theorem state_val {ms : List Int} (n tr : Int) (hl : ms.length ≤ 1000) : F_state_behind [.dat (.list (ms.map .int)), .dat (.int n), .dat (.int tr)] = some (.dat (spD (stOf ms n tr))) := by
  have st := set_eq (i := 3) (ss := [.vl (.dat (.list (ms.map .int))), .vl (.dat (.int n)), .vl (.dat (.int tr)), .no]) (rw := (0, 0)) (call_eq (ma := mCons (mVar 0) (mCons (mVar 1) mNil)) rfl (placeOf_val n hl)) (by simp)
  have tm : mTst (mCall F_is_mark (mCons (mVar 3) mNil)) [.vl (.dat (.list (ms.map .int))), .vl (.dat (.int n)), .vl (.dat (.int tr)), .vl (.dat (.int (placeOf ms n)))] (0, 0) = some (decide (placeOf ms n % 2 = 1), (0, 0)) := tst_eq (call_eq (ma := mCons (mVar 3) mNil) rfl (isMark_val _))
  refine bodyP_rt (rw := (0, 0)) rfl ((seq_nx st).trans ?_)
  unfold stOf
  by_cases h : placeOf ms n % 2 = 1
  · rw [if_pos h]
    rw [decide_eq_true h] at tm
    exact seq_rt ((ifT tm).trans rfl)
  · rw [if_neg h]
    rw [decide_eq_false h] at tm
    exact (seq_nx ((ifF tm).trans rfl)).trans rfl
/-! ### the room behind a moment -/
def behind (P t : Int) (x : Tri) : Spot := stOf (x.1.map (· * P)) (x.2.1 * P + (x.2.2 - x.2.1) * t) (sgn (x.2.2 - x.2.1))
def TriOk (x : Tri) : Prop := x.1.length ≤ 3 ∧ Smalls x.1 ∧ Small x.2.1 ∧ Small x.2.2
abbrev rbG : PyData → List Sl → Option (List Sl) := gTp 3 (gsCons (gNm 6) (gsCons (gNm 7) (gsCons (gNm 8) gsNil)))
abbrev rbB : Sx := sSeq (sSet 9 (m2 addD (m2 mulD (mVar 7) (mVar 3)) (m2 mulD (m2 subD (mVar 8) (mVar 7)) (mVar 4)))) (sSeq (sSet 10 (mList (mLc [11] (mSeq (mVar 6)) (gNm 11) mYes (m2 mulD (mVar 11) (mVar 3))))) (sSet 5 (m2 addD (mVar 5) (mTup (mCons (mCall F_state_behind (mCons (mVar 10) (mCons (mVar 9) (mCons (mCall F_sign (mCons (m2 subD (mVar 8) (mVar 7)) mNil)) mNil)))) mNil)))))
theorem behind_go (A B C : Sl) (P t : Int) : ∀ (xs : List Tri) (acc : List Spot) (s6 s7 s8 s9 s10 : Sl) (rw : Ro), (∀ x ∈ xs, TriOk x) → acc.length + xs.length ≤ 10 →
    ∃ s6' s7' s8' s9' s10', forGo rbG rbB (xs.map triD) [A, B, C, .vl (.dat (.int P)), .vl (.dat (.int t)), .vl (.dat (rmD acc)), s6, s7, s8, s9, s10, .no] rw = some (.nx [A, B, C, .vl (.dat (.int P)), .vl (.dat (.int t)), .vl (.dat (rmD (acc ++ xs.map (behind P t)))), s6', s7', s8', s9', s10', .no] rw) := by
  intro xs
  induction xs with
  | nil => intro acc s6 s7 s8 s9 s10 rw _ _; exact ⟨s6, s7, s8, s9, s10, by rw [List.map_nil, List.map_nil, List.append_nil]; rfl⟩
  | cons x xs ih =>
    intro acc s6 s7 s8 s9 s10 rw h hl
    rw [List.length_cons] at hl
    obtain ⟨hx3, hm, hs, he⟩ := h x List.mem_cons_self
    obtain ⟨ms, st, en⟩ := x
    simp only at hx3 hm hs he
    let num : Int := st * P + (en - st) * t
    obtain ⟨a, b, c, d, f, e⟩ := ih (acc ++ [behind P t (ms, st, en)]) (.vl (.dat (mkD ms))) (.vl (.dat (.int st))) (.vl (.dat (.int en))) (.vl (.dat (.int num))) (.vl (.dat (.list ((ms.map (· * P)).map .int)))) rw (fun q hq => h q (List.mem_cons_of_mem _ hq)) (by rw [List.length_append]; simp; omega)
    refine ⟨a, b, c, d, f, ?_⟩
    let S0 : List Sl := [A, B, C, .vl (.dat (.int P)), .vl (.dat (.int t)), .vl (.dat (rmD acc)), .vl (.dat (mkD ms)), .vl (.dat (.int st)), .vl (.dat (.int en)), s9, s10, .no]
    let S1 : List Sl := [A, B, C, .vl (.dat (.int P)), .vl (.dat (.int t)), .vl (.dat (rmD acc)), .vl (.dat (mkD ms)), .vl (.dat (.int st)), .vl (.dat (.int en)), .vl (.dat (.int num)), s10, .no]
    have st1 : sSet 9 (m2 addD (m2 mulD (mVar 7) (mVar 3)) (m2 mulD (m2 subD (mVar 8) (mVar 7)) (mVar 4))) S0 rw = some (.nx S1 rw) :=
      set_eq (m2_eq (g := addD) (m2_eq (g := mulD) (m := mVar 7) (n := mVar 3) rfl rfl (mul_l hs.abs)) (m2_eq (g := mulD) (n := mVar 4) (m2_eq (g := subD) (m := mVar 8) (n := mVar 7) rfl rfl rfl) rfl (mul_l (he.sub hs))) rfl) (by simp [S0])
    have go := lcGo_map (g := gNm 11) (tt := mYes) (te := m2 mulD (mVar 11) (mVar 3)) (ss := S1) (rw := rw) PyData.int (fun m => PyData.int (m * P)) (fun _ => true) ms fun m hmm =>
      ⟨[A, B, C, .vl (.dat (.int P)), .vl (.dat (.int t)), .vl (.dat (rmD acc)), .vl (.dat (mkD ms)), .vl (.dat (.int st)), .vl (.dat (.int en)), .vl (.dat (.int num)), s10, .vl (.dat (.int m))], rfl, rfl, fun _ => m2_eq (g := mulD) (m := mVar 11) (n := mVar 3) rfl rfl (mul_l (hm m hmm).abs)⟩
    rw [List.filter_eq_self.mpr (fun _ _ => rfl)] at go
    have lc := (lc_eq (vs := [11]) (mi := mSeq (mVar 6)) (ss := S1) (rw := rw) (rw1 := rw) (xs := ms.map .int) rfl rfl (by rw [List.length_map]; omega)).trans go
    have e0 : (ms.map fun m => PyData.int (m * P)) = (ms.map (· * P)).map .int := by rw [List.map_map]; rfl
    rw [e0] at lc
    have st2 := set_eq (i := 10) (list_eq lc) (by simp [S1])
    have sv := state_val (ms := ms.map (· * P)) num (sgn (en - st)) (by rw [List.length_map]; omega)
    have st3 := set_eq (i := 5) (ss := [A, B, C, .vl (.dat (.int P)), .vl (.dat (.int t)), .vl (.dat (rmD acc)), .vl (.dat (mkD ms)), .vl (.dat (.int st)), .vl (.dat (.int en)), .vl (.dat (.int num)), .vl (.dat (.list ((ms.map (· * P)).map .int))), .no]) (rw := rw)
      (m2_eq (g := addD) (m := mVar 5) rfl (tup_eq (ds := [spD (behind P t (ms, st, en))]) (cons_eq (call_eq (cons_eq (m := mVar 10) rfl (cons_eq (m := mVar 9) rfl (cons_eq (call_eq (cons_eq (m2_eq (g := subD) (m := mVar 8) (n := mVar 7) rfl rfl rfl) nil_eq) (sign_val _)) nil_eq))) sv) nil_eq) rfl (show (1 : Nat) ≤ 100000 by decide)) (room_add _ (by omega))) (by simp)
    have e8 : acc ++ behind P t (ms, st, en) :: xs.map (behind P t) = acc ++ [behind P t (ms, st, en)] ++ xs.map (behind P t) := by simp
    rw [List.map_cons, forGo_step (ss1 := S0) rfl ((seq_nx st1).trans ((seq_nx st2).trans st3)), List.map_cons, e8]
    exact e
theorem behind_val {mss : List (List Int)} {a b : List Int} (P t : Int) (h : ∀ x ∈ tri mss a b, TriOk x) (hl : (tri mss a b).length ≤ 10) : F_room_behind [.dat (.list (mss.map mkD)), .dat (rowD a), .dat (rowD b), .dat (.int P), .dat (.int t)] = some (.dat (rmD ((tri mss a b).map (behind P t)))) := by
  obtain ⟨c1, c2, c3, c4, c5, e⟩ := behind_go (.vl (.dat (.list (mss.map mkD)))) (.vl (.dat (rowD a))) (.vl (.dat (rowD b))) P t (tri mss a b) [] .no .no .no .no .no (0, 0) h (by simpa using hl)
  rw [List.nil_append, ← zp3_map] at e
  exact bodyP_rt (rw := (0, 0)) rfl ((seq_nx (ss1 := [.vl (.dat (.list (mss.map mkD))), .vl (.dat (rowD a)), .vl (.dat (rowD b)), .vl (.dat (.int P)), .vl (.dat (.int t)), .vl (.dat (rmD [])), .no, .no, .no, .no, .no, .no]) (rw1 := (0, 0)) rfl).trans ((seq_nx ((for_eq (xs := zpD3 (mss.map mkD) (a.map .int) (b.map .int)) (rw1 := (0, 0)) rfl).trans e)).trans rfl))
end Law
/-! Runs: the program's rooms of an hour, all of them. -/
namespace Law
open PySem L2 FL
def crossed (x : Tri) : List Int := x.1.filter fun m => decide (min x.2.1 x.2.2 < m) && decide (m < max x.2.1 x.2.2)
def momentsOf (P : Int) (x : Tri) : List Int := (crossed x).map fun m => ((m - x.2.1) * P).fdiv (x.2.2 - x.2.1)
def moments (P : Int) (xs : List Tri) : List Int := 0 :: xs.flatMap (momentsOf P)
def hourP (P : Int) (xs : List Tri) : List (List Spot) := (sortI (moments P xs)).map fun t => xs.map (behind P t)
theorem min_val (a b : Int) : min2D (.dat (.int a)) (.dat (.int b)) = some (.dat (.int (min a b))) := by
  unfold min2D i2 min2I
  simp only []
  congr 3
  split <;> omega
theorem max_val (a b : Int) : max2D (.dat (.int a)) (.dat (.int b)) = some (.dat (.int (max a b))) := by
  unfold max2D i2 max2I
  simp only []
  congr 3
  split <;> omega
theorem chain_lt {a b c : Mx Vl} {ss : List Sl} {rw : Ro} {x y z : Int} (h1 : a ss rw = some (.dat (.int x), rw)) (h2 : b ss rw = some (.dat (.int y), rw)) (h3 : c ss rw = some (.dat (.int z), rw)) : mChain ltD ltD a b c ss rw = some (.dat (.bool (decide (x < y) && decide (y < z))), rw) := by
  unfold mChain bnd
  rw [h1]
  simp only []
  rw [h2]
  simp only []
  have e : mTst (opt (ltD (.dat (.int x)) (.dat (.int y)))) ss rw = some (decide (x < y), rw) := rfl
  rw [e]
  simp only []
  by_cases h : x < y
  · rw [decide_eq_true h, if_pos rfl, h3]
    rfl
  · rw [decide_eq_false h, if_neg Bool.false_ne_true]
    rfl
theorem crossed_mem {x : Tri} {m : Int} (h : m ∈ crossed x) : m ∈ x.1 ∧ min x.2.1 x.2.2 < m ∧ m < max x.2.1 x.2.2 := by
  unfold crossed at h
  obtain ⟨h1, h2⟩ := List.mem_filter.mp h
  rw [Bool.and_eq_true, decide_eq_true_iff, decide_eq_true_iff] at h2
  exact ⟨h1, h2⟩
theorem fdvn_val {a b : Int} (h : b ≠ 0) (h2 : Small b ∨ b.natAbs < 1073741824) : fdvnD (.dat (.int a)) (.dat (.int b)) = some (.dat (.int (a.fdiv b))) := by
  have h3 : b.natAbs < 1073741824 := by
    rcases h2 with h2 | h2
    · unfold Small at h2; omega
    · exact h2
  unfold fdvnD i2 fdvnI
  simp only []
  rw [if_pos ⟨h, h3⟩]
theorem ints_ok : ∀ ns : List Int, ints? (ns.map .int) = some ns
  | [] => rfl
  | n :: ns => by
    rw [List.map_cons]
    unfold ints?
    rw [ints_ok ns]
theorem sortI_val {ns : List Int} (h : ns.length < 64) : sortSetI (.dat (.list (ns.map .int))) = some (.dat (.list ((sortI ns).map .int))) := by
  unfold sortSetI
  simp only [ints_ok]
  rw [if_pos h]
abbrev roG : PyData → List Sl → Option (List Sl) := gTp 3 (gsCons (gNm 5) (gsCons (gNm 6) (gsCons (gNm 7) gsNil)))
abbrev roB : Sx := sSeq (sSet 8 (mList (mLc [9] (mSeq (mVar 5)) (gNm 9) (mTst (mChain ltD ltD (m2 min2D (mVar 6) (mVar 7)) (mVar 9) (m2 max2D (mVar 6) (mVar 7)))) (mVar 9)))) (sExt 4 (mList (mLc [9] (mSeq (mVar 8)) (gNm 9) mYes (m2 fdvnD (m2 mulD (m2 subD (mVar 9) (mVar 6)) (mVar 3)) (m2 subD (mVar 7) (mVar 6))))))
theorem crossed_len (x : Tri) : (crossed x).length ≤ x.1.length := List.length_filter_le _ _
theorem moments_go (A B C : Sl) (P : Int) : ∀ (xs : List Tri) (acc : List Int) (s5 s6 s7 s8 : Sl) (rw : Ro), (∀ x ∈ xs, TriOk x) → acc.length + xs.length * 3 ≤ 1000 →
    ∃ s5' s6' s7' s8', forGo roG roB (xs.map triD) [A, B, C, .vl (.dat (.int P)), .own (acc.map .int), s5, s6, s7, s8, .no, .no] rw = some (.nx [A, B, C, .vl (.dat (.int P)), .own ((acc ++ xs.flatMap (momentsOf P)).map .int), s5', s6', s7', s8', .no, .no] rw) := by
  intro xs
  induction xs with
  | nil => intro acc s5 s6 s7 s8 rw _ _; exact ⟨s5, s6, s7, s8, by rw [List.flatMap_nil, List.append_nil]; rfl⟩
  | cons x xs ih =>
    intro acc s5 s6 s7 s8 rw h hl
    rw [List.length_cons] at hl
    obtain ⟨hx3, hm, hs, he⟩ := h x List.mem_cons_self
    have cl := crossed_len x
    have ml : (momentsOf P x).length ≤ 3 := by unfold momentsOf; rw [List.length_map]; omega
    obtain ⟨a, b, c, d, e⟩ := ih (acc ++ momentsOf P x) (.vl (.dat (mkD x.1))) (.vl (.dat (.int x.2.1))) (.vl (.dat (.int x.2.2))) (.vl (.dat (.list ((crossed x).map .int)))) rw (fun q hq => h q (List.mem_cons_of_mem _ hq)) (by rw [List.length_append]; omega)
    refine ⟨a, b, c, d, ?_⟩
    let S0 : List Sl := [A, B, C, .vl (.dat (.int P)), .own (acc.map .int), .vl (.dat (mkD x.1)), .vl (.dat (.int x.2.1)), .vl (.dat (.int x.2.2)), s8, .no, .no]
    let S1 : List Sl := [A, B, C, .vl (.dat (.int P)), .own (acc.map .int), .vl (.dat (mkD x.1)), .vl (.dat (.int x.2.1)), .vl (.dat (.int x.2.2)), .vl (.dat (.list ((crossed x).map .int))), .no, .no]
    have go := lcGo_map (g := gNm 9) (tt := mTst (mChain ltD ltD (m2 min2D (mVar 6) (mVar 7)) (mVar 9) (m2 max2D (mVar 6) (mVar 7)))) (te := mVar 9) (ss := S0) (rw := rw) PyData.int PyData.int (fun m => decide (min x.2.1 x.2.2 < m) && decide (m < max x.2.1 x.2.2)) x.1 fun m _ =>
      ⟨[A, B, C, .vl (.dat (.int P)), .own (acc.map .int), .vl (.dat (mkD x.1)), .vl (.dat (.int x.2.1)), .vl (.dat (.int x.2.2)), s8, .vl (.dat (.int m)), .no], rfl, tst_eq (chain_lt (m2_eq (g := min2D) (m := mVar 6) (n := mVar 7) rfl rfl (min_val _ _)) (b := mVar 9) rfl (m2_eq (g := max2D) (m := mVar 6) (n := mVar 7) rfl rfl (max_val _ _))), fun _ => rfl⟩
    have lc := (lc_eq (vs := [9]) (mi := mSeq (mVar 5)) (ss := S0) (rw := rw) (rw1 := rw) (xs := x.1.map .int) (by simp [noOwn, S0]) rfl (by rw [List.length_map]; omega)).trans go
    have st1 := set_eq (i := 8) (list_eq lc) (by simp [S0])
    have go2 := lcGo_map (g := gNm 9) (tt := mYes) (te := m2 fdvnD (m2 mulD (m2 subD (mVar 9) (mVar 6)) (mVar 3)) (m2 subD (mVar 7) (mVar 6))) (ss := S1) (rw := rw) PyData.int (fun m => PyData.int (((m - x.2.1) * P).fdiv (x.2.2 - x.2.1))) (fun _ => true) (crossed x) fun m hmm => by
      obtain ⟨m1', m2', m3'⟩ := crossed_mem hmm
      have ne : x.2.2 - x.2.1 ≠ 0 := by omega
      have sm : (x.2.2 - x.2.1).natAbs < 1073741824 := by unfold Small at hs he; omega
      exact ⟨[A, B, C, .vl (.dat (.int P)), .own (acc.map .int), .vl (.dat (mkD x.1)), .vl (.dat (.int x.2.1)), .vl (.dat (.int x.2.2)), .vl (.dat (.list ((crossed x).map .int))), .vl (.dat (.int m)), .no], rfl, rfl, fun _ => m2_eq (g := fdvnD) (m2_eq (g := mulD) (n := mVar 3) (m2_eq (g := subD) (m := mVar 9) (n := mVar 6) rfl rfl rfl) rfl (mul_l ((hm m m1').sub hs))) (m2_eq (g := subD) (m := mVar 7) (n := mVar 6) rfl rfl rfl) (fdvn_val ne (.inr sm))⟩
    rw [List.filter_eq_self.mpr (fun _ _ => rfl)] at go2
    have lc2 := (lc_eq (vs := [9]) (mi := mSeq (mVar 8)) (ss := S1) (rw := rw) (rw1 := rw) (xs := (crossed x).map .int) (by simp [noOwn, S1]) rfl (by rw [List.length_map]; omega)).trans go2
    have e0 : ((crossed x).map fun m => PyData.int (((m - x.2.1) * P).fdiv (x.2.2 - x.2.1))) = (momentsOf P x).map .int := by unfold momentsOf; rw [List.map_map]; rfl
    rw [e0] at lc2
    have st2 := ext_eq (i := 4) (ss := S1) rfl (list_eq lc2) (by rw [List.length_map, List.length_map]; omega)
    have e9 : (acc.map PyData.int ++ (momentsOf P x).map .int) = (acc ++ momentsOf P x).map .int := by rw [List.map_append]
    rw [e9] at st2
    have e8 : acc ++ (x :: xs).flatMap (momentsOf P) = acc ++ momentsOf P x ++ xs.flatMap (momentsOf P) := by rw [List.flatMap_cons, List.append_assoc]
    rw [List.map_cons, forGo_step (ss1 := S0) rfl ((seq_nx st1).trans st2), e8]
    exact e
theorem moments_len (P : Int) {xs : List Tri} (h : ∀ x ∈ xs, TriOk x) : (moments P xs).length ≤ 1 + xs.length * 3 := by
  unfold moments
  rw [List.length_cons]
  induction xs with
  | nil => simp
  | cons x xs ih =>
    have := ih fun q hq => h q (List.mem_cons_of_mem _ hq)
    have cl := crossed_len x
    have h3 := (h x List.mem_cons_self).1
    have ml : (momentsOf P x).length ≤ 3 := by unfold momentsOf; rw [List.length_map]; omega
    rw [List.flatMap_cons, List.length_append, List.length_cons]
    omega
theorem insI_len (p : Int) : ∀ l : List Int, (insI p l).length ≤ l.length + 1
  | [] => by simp [insI]
  | q :: l => by
    have := insI_len p l
    unfold insI
    split
    · omega
    · split
      · simp
      · rw [List.length_cons, List.length_cons]; omega
theorem sortI_len : ∀ l : List Int, (sortI l).length ≤ l.length
  | [] => by simp [sortI]
  | p :: l => by
    have := sortI_len l
    have h := insI_len p (sortI l)
    show (insI p (sortI l)).length ≤ _
    rw [List.length_cons]
    omega
theorem rooms_hour_val {mss : List (List Int)} {a b : List Int} (ha : Smalls a) (hb : Smalls b) (h : ∀ x ∈ tri mss a b, TriOk x) (hl : (tri mss a b).length ≤ 3) : F_rooms_of_hour [.dat (.list (mss.map mkD)), .dat (rowD a), .dat (rowD b)] = some (.dat (.list ((hourP (partsOf (a.zip b) 1) (tri mss a b)).map rmD))) := by
  let P := partsOf (a.zip b) 1
  have st1 := set_eq (i := 3) (ss := [.vl (.dat (.list (mss.map mkD))), .vl (.dat (rowD a)), .vl (.dat (rowD b)), .no, .no, .no, .no, .no, .no, .no, .no]) (rw := (0, 0)) (call_eq (ma := mCons (mVar 1) (mCons (mVar 2) mNil)) rfl (parts_val ha hb)) (by simp)
  obtain ⟨c1, c2, c3, c4, e⟩ := moments_go (.vl (.dat (.list (mss.map mkD)))) (.vl (.dat (rowD a))) (.vl (.dat (rowD b))) P (tri mss a b) [0] .no .no .no .no (0, 0) h (by simp; omega)
  rw [← zp3_map] at e
  have ml := moments_len P h
  have sl := sortI_len (moments P (tri mss a b))
  have sv := sortI_val (ns := moments P (tri mss a b)) (by omega)
  have go := lcGo_map (g := gNm 10) (tt := mYes) (te := mCall F_room_behind (mCons (mVar 0) (mCons (mVar 1) (mCons (mVar 2) (mCons (mVar 3) (mCons (mVar 10) mNil)))))) (ss := [.vl (.dat (.list (mss.map mkD))), .vl (.dat (rowD a)), .vl (.dat (rowD b)), .vl (.dat (.int P)), .vl (.dat (.list ((moments P (tri mss a b)).map .int))), c1, c2, c3, c4, .no, .no]) (rw := (0, 0)) PyData.int (fun t => rmD ((tri mss a b).map (behind P t))) (fun _ => true) (sortI (moments P (tri mss a b))) fun t _ =>
    ⟨[.vl (.dat (.list (mss.map mkD))), .vl (.dat (rowD a)), .vl (.dat (rowD b)), .vl (.dat (.int P)), .vl (.dat (.list ((moments P (tri mss a b)).map .int))), c1, c2, c3, c4, .no, .vl (.dat (.int t))], rfl, rfl, fun _ => call_eq rfl (behind_val P t h (by omega))⟩
  rw [List.filter_eq_self.mpr (fun _ _ => rfl)] at go
  have lc := (lc_eq (vs := [10]) (mi := mSeq (m1 sortSetI (mVar 4))) (rw1 := (0, 0)) (xs := (sortI (moments P (tri mss a b))).map .int) (ss := [.vl (.dat (.list (mss.map mkD))), .vl (.dat (rowD a)), .vl (.dat (rowD b)), .vl (.dat (.int P)), .vl (.dat (.list ((moments P (tri mss a b)).map .int))), c1, c2, c3, c4, .no, .no]) (rw := (0, 0)) (by simp [noOwn]) (seq_eq (m1_eq (g := sortSetI) (m := mVar 4) rfl sv) rfl) (by rw [List.length_map]; omega)).trans go
  refine bodyP_rt (rw := (0, 0)) rfl ((seq_nx st1).trans ((seq_nx (ss1 := [.vl (.dat (.list (mss.map mkD))), .vl (.dat (rowD a)), .vl (.dat (rowD b)), .vl (.dat (.int P)), .own [.int 0], .no, .no, .no, .no, .no, .no]) (rw1 := (0, 0)) rfl).trans ((seq_nx ((for_eq (xs := zpD3 (mss.map mkD) (a.map .int) (b.map .int)) (rw1 := (0, 0)) rfl).trans e)).trans ?_)))
  have e5 : (hourP P (tri mss a b)).map rmD = (sortI (moments P (tri mss a b))).map fun t => rmD ((tri mss a b).map (behind P t)) := by unfold hourP; rw [List.map_map]; rfl
  rw [e5]
  exact ret_eq (list_eq lc)
end Law
/-! Runs: the law's rooms of an hour. -/
namespace Law
open PySem L2 FL
def plStep (P2 N : Int) (pl m : Int) : Int := pl + (if m * P2 < N then 1 else 0) + (if m * P2 ≤ N then 1 else 0)
def numL (P2 t : Int) (x : Tri) : Int := x.2.1 * P2 + (x.2.2 - x.2.1) * t
def trL (f : Int) : Int := (if 0 < f then 1 else 0) - (if f < 0 then 1 else 0)
def spotL (P2 t : Int) (x : Tri) : Spot := (x.1.foldl (plStep P2 (numL P2 t x)) 0, trL (x.2.2 - x.2.1))
theorem int_b (b : Bool) : intD (.dat (.bool b)) = some (.dat (.int (if b = true then 1 else 0))) := rfl
abbrev lsB : Sx := sSet 6 (m2 addD (m2 addD (mVar 6) (m1 intD (m2 ltD (m2 mulD (mVar 7) (mVar 3)) (mVar 5)))) (m1 intD (m2 leD (m2 mulD (mVar 7) (mVar 3)) (mVar 5))))
theorem lspot_go (A B C D E : Sl) (P2 N : Int) (hA : True) : ∀ (ms : List Int) (pl : Int) (s7 : Sl) (rw : Ro), Smalls ms →
    ∃ s7', forGo (gNm 7) lsB (ms.map .int) [A, B, C, .vl (.dat (.int P2)), E, .vl (.dat (.int N)), .vl (.dat (.int pl)), s7] rw = some (.nx [A, B, C, .vl (.dat (.int P2)), E, .vl (.dat (.int N)), .vl (.dat (.int (ms.foldl (plStep P2 N) pl))), s7'] rw) := by
  intro ms
  induction ms with
  | nil => intro pl s7 rw _; exact ⟨s7, rfl⟩
  | cons m ms ih =>
    intro pl s7 rw h
    obtain ⟨a, e⟩ := ih (plStep P2 N pl m) (.vl (.dat (.int m))) rw fun q hq => h q (List.mem_cons_of_mem _ hq)
    refine ⟨a, ?_⟩
    have mp := m2_eq (g := mulD) (m := mVar 7) (n := mVar 3) (ss := [A, B, C, .vl (.dat (.int P2)), E, .vl (.dat (.int N)), .vl (.dat (.int pl)), .vl (.dat (.int m))]) (rw := rw) rfl rfl (mul_l (a := m) (b := P2) (h m List.mem_cons_self).abs)
    have lt : m1 intD (m2 ltD (m2 mulD (mVar 7) (mVar 3)) (mVar 5)) [A, B, C, .vl (.dat (.int P2)), E, .vl (.dat (.int N)), .vl (.dat (.int pl)), .vl (.dat (.int m))] rw = some (.dat (.int (if m * P2 < N then 1 else 0)), rw) := by
      refine m1_eq (m2_eq (g := ltD) (n := mVar 5) mp rfl (z := .dat (.bool (decide (m * P2 < N)))) rfl) ?_
      rw [int_b]
      by_cases z : m * P2 < N <;> simp [z]
    have le : m1 intD (m2 leD (m2 mulD (mVar 7) (mVar 3)) (mVar 5)) [A, B, C, .vl (.dat (.int P2)), E, .vl (.dat (.int N)), .vl (.dat (.int pl)), .vl (.dat (.int m))] rw = some (.dat (.int (if m * P2 ≤ N then 1 else 0)), rw) := by
      refine m1_eq (m2_eq (g := leD) (n := mVar 5) mp rfl (z := .dat (.bool (decide (m * P2 ≤ N)))) rfl) ?_
      rw [int_b]
      by_cases z : m * P2 ≤ N <;> simp [z]
    have st := set_eq (i := 6) (m2_eq (g := addD) (m2_eq (g := addD) (m := mVar 6) rfl lt rfl) le rfl) (by simp)
    rw [List.map_cons, forGo_step (ss1 := [A, B, C, .vl (.dat (.int P2)), E, .vl (.dat (.int N)), .vl (.dat (.int pl)), .vl (.dat (.int m))]) rfl st]
    exact e
theorem lspot_val {x : Tri} (P2 t : Int) (h : TriOk x) : F__law_spot [.dat (mkD x.1), .dat (.int x.2.1), .dat (.int (x.2.2 - x.2.1)), .dat (.int P2), .dat (.int t)] = some (.dat (spD (spotL P2 t x))) := by
  obtain ⟨hx3, hm, hs, he⟩ := h
  let S0 : List Sl := [.vl (.dat (mkD x.1)), .vl (.dat (.int x.2.1)), .vl (.dat (.int (x.2.2 - x.2.1))), .vl (.dat (.int P2)), .vl (.dat (.int t)), .no, .no, .no]
  have st1 := set_eq (i := 5) (ss := S0) (rw := (0, 0)) (m2_eq (g := addD) (m2_eq (g := mulD) (m := mVar 1) (n := mVar 3) rfl rfl (mul_l hs.abs)) (m2_eq (g := mulD) (m := mVar 2) (n := mVar 4) rfl rfl (mul_l (he.sub hs))) rfl) (by simp [S0])
  obtain ⟨a, e⟩ := lspot_go (.vl (.dat (mkD x.1))) (.vl (.dat (.int x.2.1))) (.vl (.dat (.int (x.2.2 - x.2.1)))) .no (.vl (.dat (.int t))) P2 (numL P2 t x) trivial x.1 0 .no (0, 0) hm
  refine bodyP_rt (rw := (0, 0)) rfl ((seq_nx st1).trans ((seq_nx (ss1 := [.vl (.dat (mkD x.1)), .vl (.dat (.int x.2.1)), .vl (.dat (.int (x.2.2 - x.2.1))), .vl (.dat (.int P2)), .vl (.dat (.int t)), .vl (.dat (.int (numL P2 t x))), .vl (.dat (.int 0)), .no]) (rw1 := (0, 0)) rfl).trans ((seq_nx ((for_eq (xs := x.1.map .int) (rw1 := (0, 0)) rfl).trans e)).trans ?_)))
  have g1 : ∀ (ss : List Sl) (rw : Ro), ss[2]? = some (.vl (.dat (.int (x.2.2 - x.2.1)))) → m2 subD (m1 intD (m2 gtD (mVar 2) (mC (.int 0)))) (m1 intD (m2 ltD (mVar 2) (mC (.int 0)))) ss rw = some (.dat (.int (trL (x.2.2 - x.2.1))), rw) := fun ss rw h2 => by
    have mv : mVar 2 ss rw = some (.dat (.int (x.2.2 - x.2.1)), rw) := by unfold mVar; rw [h2]
    refine m2_eq (g := subD) (m1_eq (g := intD) (y := .dat (.int (if 0 < x.2.2 - x.2.1 then 1 else 0))) (m2_eq (g := gtD) (n := mC (.int 0)) mv rfl (z := .dat (.bool (decide (0 < x.2.2 - x.2.1)))) rfl) ?_) (m1_eq (g := intD) (y := .dat (.int (if x.2.2 - x.2.1 < 0 then 1 else 0))) (m2_eq (g := ltD) (n := mC (.int 0)) mv rfl (z := .dat (.bool (decide (x.2.2 - x.2.1 < 0)))) rfl) ?_) rfl
    · rw [int_b]; by_cases z : 0 < x.2.2 - x.2.1 <;> simp [z]
    · rw [int_b]; by_cases z : x.2.2 - x.2.1 < 0 <;> simp [z]
  exact ret_eq (tup_eq (ds := [.int (x.1.foldl (plStep P2 (numL P2 t x)) 0), .int (trL (x.2.2 - x.2.1))]) (cons_eq (m := mVar 6) rfl (cons_eq (g1 _ _ rfl) nil_eq)) rfl (show (2 : Nat) ≤ 100000 by decide))
/-! ### the hour -/
def farOf (x : Tri) : Int := x.2.2 - x.2.1
def stepL (P : Int) (f : Int) : Int := P * max 1 (absI f)
def clampT (P2 : Int) (x : Tri) (m : Int) : Int := max 0 (min P2 ((m - x.2.1) * P2.fdiv (farOf x)))
def timesOf (P2 : Int) (x : Tri) : List Int := if farOf x = 0 then [] else x.1.map (clampT P2 x)
def times (P2 : Int) (xs : List Tri) : List Int := 0 :: P2 :: xs.flatMap (timesOf P2)
def partsL (xs : List Tri) : Int := (xs.map farOf).foldl stepL 2
def midRooms (P2 : Int) (xs : List Tri) (T : List Int) : List (List Spot) := (T.zip T.tail).map fun p => xs.map (spotL P2 ((p.1 + p.2) / 2))
def hourL (xs : List Tri) : List (List Spot) := midRooms (partsL xs) xs (sortI (times (partsL xs) xs))
/-- what the lists of an hour have at a place -/
structure Hr (ts : List Thing) (a b : List Int) (xs : List Tri) : Prop where
  la : a.length = ts.length
  lb : b.length = ts.length
  lx : xs.length = ts.length
  at_ : ∀ (k : Nat) (x : Tri), xs[k]? = some x → ∃ t, ts[k]? = some t ∧ t.2 = x.1 ∧ a[k]? = some x.2.1 ∧ b[k]? = some x.2.2
theorem hr_tri : ∀ {ts : List Thing} {a b : List Int}, a.length = ts.length → b.length = ts.length → Hr ts a b (tri (ts.map (·.2)) a b)
  | [], [], [], _, _ => ⟨rfl, rfl, rfl, fun k x h => by simp [tri] at h⟩
  | t :: ts, u :: a, v :: b, ha, hb => by
    have ih := hr_tri (ts := ts) (a := a) (b := b) (by simpa using ha) (by simpa using hb)
    refine ⟨ha, hb, by rw [List.map_cons]; unfold tri; rw [List.length_cons, ih.lx]; rfl, fun k x h => ?_⟩
    rw [List.map_cons] at h
    unfold tri at h
    cases k with
    | zero =>
      simp at h
      subst h
      exact ⟨t, rfl, rfl, rfl, rfl⟩
    | succ k =>
      rw [List.getElem?_cons_succ] at h
      obtain ⟨t', h1, h2, h3, h4⟩ := ih.at_ k x h
      exact ⟨t', h1, h2, h3, h4⟩
  | [], _ :: _, _, h, _ => by simp at h
  | [], [], _ :: _, _, h => by simp at h
  | _ :: _, [], _, h, _ => by simp at h
  | _ :: _, _ :: _, [], _, h => by simp at h
theorem row_ix {r : List Int} {k : Nat} {v : Int} (h : r[k]? = some v) : ixD (.dat (rowD r)) (.dat (.int (k : Nat))) = some (.dat (.int v)) := by
  have := atI_mapD PyData.int h
  unfold ixD rowD
  simp only [this]
theorem list_ix {r : List Int} {k : Nat} {v : Int} (h : r[k]? = some v) : ixD (.dat (.list (r.map .int))) (.dat (.int (k : Nat))) = some (.dat (.int v)) := by
  have := atI_mapD PyData.int h
  unfold ixD
  simp only [this]
theorem range_map {α β : Type} (xs : List α) (f : Nat → β) (g : α → β) (h : ∀ k x, xs[k]? = some x → f k = g x) : (List.range xs.length).map f = xs.map g := by
  apply List.ext_getElem?
  intro k
  rw [List.getElem?_map, List.getElem?_map]
  by_cases hk : k < xs.length
  · rw [List.getElem?_range hk]
    have e := List.getElem?_eq_getElem hk
    rw [e]
    exact congrArg some (h k _ e)
  · rw [List.getElem?_eq_none (by simpa using hk), List.getElem?_eq_none (by simpa using hk)]
    rfl
theorem rg_things {ts : List Thing} {ss : List Sl} {rw : Ro} (h : ss[0]? = some (.vl (.dat (thsD ts)))) (hl : ts.length ≤ 1000) : mRg1 (m1 lenD (mVar 0)) ss rw = some ((List.range ts.length).map fun i => .int (i : Nat), rw) := by
  have mv : mVar 0 ss rw = some (.dat (thsD ts), rw) := by unfold mVar; rw [h]
  have h2 : (-1000000 : Int) ≤ (ts.length : Int) ∧ (ts.length : Int) ≤ 1000000 := by omega
  unfold mRg1 bnd
  rw [m1_eq (g := lenD) mv (len_ths ts)]
  simp [opt, h2, rgD_map]
theorem lparts_go (A B C D : Sl) (S6 S7 S8 S9 S10 S11 S12 : Sl) : ∀ (fs : List Int) (P : Int) (s5 : Sl) (rw : Ro), (∀ f ∈ fs, f.natAbs < 2 ^ 32) →
    ∃ s5', forGo (gNm 5) (sSet 4 (m2 mulD (mVar 4) (m2 max2D (mC (.int 1)) (m1 absD (mVar 5))))) (fs.map .int) [A, B, C, D, .vl (.dat (.int P)), s5, S6, S7, S8, S9, S10, S11, S12] rw = some (.nx [A, B, C, D, .vl (.dat (.int (fs.foldl stepL P))), s5', S6, S7, S8, S9, S10, S11, S12] rw) := by
  intro fs
  induction fs with
  | nil => intro P s5 rw _; exact ⟨s5, rfl⟩
  | cons f fs ih =>
    intro P s5 rw h
    obtain ⟨a, e⟩ := ih (stepL P f) (.vl (.dat (.int f))) rw fun q hq => h q (List.mem_cons_of_mem _ hq)
    refine ⟨a, ?_⟩
    have hf := h f List.mem_cons_self
    have sm : (max 1 (absI f)).natAbs < 2 ^ 64 := by unfold absI; split <;> omega
    have st := set_eq (i := 4) (m2_eq (g := mulD) (m := mVar 4) (ss := [A, B, C, D, .vl (.dat (.int P)), .vl (.dat (.int f)), S6, S7, S8, S9, S10, S11, S12]) (rw := rw) rfl (m2_eq (g := max2D) (m := mC (.int 1)) rfl (m1_eq (g := absD) (m := mVar 5) (y := .dat (.int (absI f))) rfl rfl) (max_val _ _)) (mul_r sm)) (by simp)
    rw [List.map_cons, forGo_step (ss1 := [A, B, C, D, .vl (.dat (.int P)), .vl (.dat (.int f)), S6, S7, S8, S9, S10, S11, S12]) rfl st]
    exact e
abbrev ltB : Sx := sIf (mTst (m2 neD (m2 ixD (mVar 3) (mVar 7)) (mC (.int 0)))) (sApp 6 (m2 max2D (mC (.int 0)) (m2 min2D (mVar 4) (m2 mulD (m2 subD (mVar 8) (m2 ixD (mVar 1) (mVar 7))) (m2 fdvnD (mVar 4) (m2 ixD (mVar 3) (mVar 7))))))) sNx
theorem lmarks_go (A C S5 : Sl) (S9 S10 S11 S12 : Sl) {a fs : List Int} (P2 : Int) (k : Nat) (x : Tri) (hx : TriOk x) (ha : a[k]? = some x.2.1) (hf : fs[k]? = some (farOf x)) : ∀ (ms : List Int) (acc : List Int) (s8 : Sl) (rw : Ro), Smalls ms → acc.length + ms.length ≤ 1000 →
    ∃ s8', forGo (gNm 8) ltB (ms.map .int) [A, .vl (.dat (rowD a)), C, .vl (.dat (.list (fs.map .int))), .vl (.dat (.int P2)), S5, .own (acc.map .int), .vl (.dat (.int (k : Nat))), s8, S9, S10, S11, S12] rw =
      some (.nx [A, .vl (.dat (rowD a)), C, .vl (.dat (.list (fs.map .int))), .vl (.dat (.int P2)), S5, .own ((acc ++ if farOf x = 0 then [] else ms.map (clampT P2 x)).map .int), .vl (.dat (.int (k : Nat))), s8', S9, S10, S11, S12] rw) := by
  intro ms
  induction ms with
  | nil => intro acc s8 rw _ _; exact ⟨s8, by simp [forGo]⟩
  | cons m ms ih =>
    intro acc s8 rw h hl
    rw [List.length_cons] at hl
    have hm := h m List.mem_cons_self
    obtain ⟨hx3, _, hs, he⟩ := hx
    let S1 : List Sl := [A, .vl (.dat (rowD a)), C, .vl (.dat (.list (fs.map .int))), .vl (.dat (.int P2)), S5, .own (acc.map .int), .vl (.dat (.int (k : Nat))), .vl (.dat (.int m)), S9, S10, S11, S12]
    have ixf : ∀ rw, m2 ixD (mVar 3) (mVar 7) S1 rw = some (.dat (.int (farOf x)), rw) := fun rw => m2_eq (g := ixD) (m := mVar 3) (n := mVar 7) rfl rfl (list_ix hf)
    have tv : mTst (m2 neD (m2 ixD (mVar 3) (mVar 7)) (mC (.int 0))) S1 rw = some (!decide (farOf x = 0), rw) := tst_eq (m2_eq (g := neD) (n := mC (.int 0)) (ixf rw) rfl (ne_int _ _))
    by_cases hz : farOf x = 0
    · rw [decide_eq_true hz] at tv
      obtain ⟨b, e⟩ := ih acc (.vl (.dat (.int m))) rw (fun q hq => h q (List.mem_cons_of_mem _ hq)) (by omega)
      refine ⟨b, ?_⟩
      rw [if_pos hz] at e ⊢
      rw [List.map_cons, forGo_step (ss1 := S1) rfl ((ifF tv).trans rfl)]
      exact e
    · rw [decide_eq_false hz] at tv
      have sm : (farOf x).natAbs < 1073741824 := by unfold farOf; unfold Small at hs he; omega
      have st := app_eq (i := 6) (ds := acc.map .int) (d := .int (clampT P2 x m)) (ss := S1) (rw := rw) rfl (m2_eq (g := max2D) (m := mC (.int 0)) rfl (m2_eq (g := min2D) (m := mVar 4) rfl (m2_eq (g := mulD) (m2_eq (g := subD) (m := mVar 8) rfl (m2_eq (g := ixD) (m := mVar 1) (n := mVar 7) rfl rfl (row_ix ha)) rfl) (m2_eq (g := fdvnD) (m := mVar 4) rfl (ixf rw) (fdvn_val hz (.inr sm))) (mul_l (hm.sub hs))) (min_val _ _)) (max_val _ _)) (by rw [List.length_map]; omega)
      obtain ⟨b, e⟩ := ih (acc ++ [clampT P2 x m]) (.vl (.dat (.int m))) rw (fun q hq => h q (List.mem_cons_of_mem _ hq)) (by rw [List.length_append]; simp; omega)
      refine ⟨b, ?_⟩
      rw [if_neg hz] at e ⊢
      have e9 : (acc.map PyData.int ++ [.int (clampT P2 x m)]) = (acc ++ [clampT P2 x m]).map .int := by rw [List.map_append]; rfl
      rw [List.map_cons, forGo_step (ss1 := S1) rfl ((ifT tv).trans st), e9, List.map_cons]
      have e8 : acc ++ clampT P2 x m :: ms.map (clampT P2 x) = acc ++ [clampT P2 x m] ++ ms.map (clampT P2 x) := by simp
      rw [e8]
      exact e
abbrev lkB : Sx := sFor (mSeq (m2 ixD (m2 ixD (mVar 0) (mVar 7)) (mC (.int 1)))) (gNm 8) ltB
theorem ltimes_go {ts : List Thing} {a b : List Int} {xs : List Tri} (H : Hr ts a b xs) (hx : ∀ x ∈ xs, TriOk x) (P2 : Int) (C S5 S9 S10 S11 S12 : Sl) (n : Nat) : ∀ (k : Nat) (acc : List Int) (s7 s8 : Sl) (rw : Ro), k + n = ts.length → acc.length + n * 3 ≤ 900 →
    ∃ s7' s8', forGo (gNm 7) lkB ((List.range' k n).map fun i => .int (i : Nat)) [.vl (.dat (thsD ts)), .vl (.dat (rowD a)), C, .vl (.dat (.list ((xs.map farOf).map .int))), .vl (.dat (.int P2)), S5, .own (acc.map .int), s7, s8, S9, S10, S11, S12] rw =
      some (.nx [.vl (.dat (thsD ts)), .vl (.dat (rowD a)), C, .vl (.dat (.list ((xs.map farOf).map .int))), .vl (.dat (.int P2)), S5, .own ((acc ++ (xs.drop k).flatMap (timesOf P2)).map .int), s7', s8', S9, S10, S11, S12] rw) := by
  induction n with
  | zero =>
    intro k acc s7 s8 rw hk _
    refine ⟨s7, s8, ?_⟩
    rw [List.drop_eq_nil_of_le (by rw [H.lx]; omega), List.flatMap_nil, List.append_nil]
    rfl
  | succ n ih =>
    intro k acc s7 s8 rw hk hl
    obtain ⟨x, hxk⟩ : ∃ x, xs[k]? = some x := ⟨_, List.getElem?_eq_getElem (by rw [H.lx]; omega)⟩
    obtain ⟨t, ht, et, ha, hb⟩ := H.at_ k x hxk
    have ok := hx x (List.mem_of_getElem? hxk)
    have hf : (xs.map farOf)[k]? = some (farOf x) := by rw [List.getElem?_map, hxk]; rfl
    obtain ⟨s8', e1⟩ := lmarks_go (.vl (.dat (thsD ts))) C S5 S9 S10 S11 S12 (a := a) (fs := xs.map farOf) P2 k x ok ha hf x.1 acc s8 rw ok.2.1 (by have := ok.1; omega)
    have tl : (timesOf P2 x).length ≤ 3 := by unfold timesOf; split; simp; rw [List.length_map]; exact ok.1
    obtain ⟨c, d, e⟩ := ih (k + 1) (acc ++ timesOf P2 x) (.vl (.dat (.int (k : Nat)))) s8' rw (by omega) (by rw [List.length_append]; omega)
    refine ⟨c, d, ?_⟩
    have src : mSeq (m2 ixD (m2 ixD (mVar 0) (mVar 7)) (mC (.int 1))) [.vl (.dat (thsD ts)), .vl (.dat (rowD a)), C, .vl (.dat (.list ((xs.map farOf).map .int))), .vl (.dat (.int P2)), S5, .own (acc.map .int), .vl (.dat (.int (k : Nat))), s8, S9, S10, S11, S12] rw = some (x.1.map .int, rw) := by
      rw [← et]
      exact seq_eq (m2_eq (g := ixD) (n := mC (.int 1)) (m2_eq (g := ixD) (m := mVar 0) (n := mVar 7) rfl rfl (ths_at ht)) rfl (th_marks t)) rfl
    have hd : xs.drop k = x :: xs.drop (k + 1) := by
      have hk' := List.getElem?_eq_some_iff.mp hxk
      rw [List.drop_eq_getElem_cons hk'.1, hk'.2]
    rw [List.range'_succ, List.map_cons, forGo_step (ss1 := [.vl (.dat (thsD ts)), .vl (.dat (rowD a)), C, .vl (.dat (.list ((xs.map farOf).map .int))), .vl (.dat (.int P2)), S5, .own (acc.map .int), .vl (.dat (.int (k : Nat))), s8, S9, S10, S11, S12]) rfl ((for_eq src).trans e1)]
    rw [hd, List.flatMap_cons, ← List.append_assoc]
    exact e
end Law
/-! Runs: the law's hour told. -/
namespace Law
open PySem L2 FL
theorem ixV_list {i : Nat} {fb : Mx Vl} {ss : List Sl} {rw rw1 : Ro} {T : List Int} {k : Nat} {v : Int} (h : ss[i]? = some (.vl (.dat (.list (T.map .int))))) (hb : fb ss rw = some (.dat (.int (k : Nat)), rw1)) (hk : T[k]? = some v) : mIxV i fb ss rw = some (.dat (.int v), rw1) := by
  have e := list_ix hk
  unfold mIxV bnd
  rw [hb]
  simp only []
  rw [h]
  simp only [e]
theorem half_val (a : Int) : fdivD (.dat (.int a)) (.dat (.int 2)) = some (.dat (.int (a / 2))) := rfl
abbrev hrB : Sx := sSeq (sSet 10 (m2 fdivD (m2 addD (mIxV 6 (m2 subD (mVar 7) (mC (.int 1)))) (mIxV 6 (mVar 7))) (mC (.int 2)))) (sSeq (sSet 11 (mList (mLc [12] (mRg1 (m1 lenD (mVar 0))) (gNm 12) mYes (mCall F__law_spot (mCons (m2 ixD (m2 ixD (mVar 0) (mVar 12)) (mC (.int 1))) (mCons (m2 ixD (mVar 1) (mVar 12)) (mCons (m2 ixD (mVar 3) (mVar 12)) (mCons (mVar 4) (mCons (mVar 10) mNil))))))))) (sApp 9 (m1 tupleD (mVar 11))))
theorem spots_lc {ts : List Thing} {a b : List Int} {xs : List Tri} (H : Hr ts a b xs) (hx : ∀ x ∈ xs, TriOk x) (hl : ts.length ≤ 1000) (P2 t : Int) (C S5 S6 S7 S8 S9 S11 : Sl) (rw : Ro) :
    mLc [12] (mRg1 (m1 lenD (mVar 0))) (gNm 12) mYes (mCall F__law_spot (mCons (m2 ixD (m2 ixD (mVar 0) (mVar 12)) (mC (.int 1))) (mCons (m2 ixD (mVar 1) (mVar 12)) (mCons (m2 ixD (mVar 3) (mVar 12)) (mCons (mVar 4) (mCons (mVar 10) mNil))))))
      [.vl (.dat (thsD ts)), .vl (.dat (rowD a)), C, .vl (.dat (.list ((xs.map farOf).map .int))), .vl (.dat (.int P2)), S5, S6, S7, S8, S9, .vl (.dat (.int t)), S11, .no] rw = some ((xs.map (spotL P2 t)).map spD, rw) := by
  let S : List Sl := [.vl (.dat (thsD ts)), .vl (.dat (rowD a)), C, .vl (.dat (.list ((xs.map farOf).map .int))), .vl (.dat (.int P2)), S5, S6, S7, S8, S9, .vl (.dat (.int t)), S11, .no]
  have go := lcGo_map (g := gNm 12) (tt := mYes) (te := mCall F__law_spot (mCons (m2 ixD (m2 ixD (mVar 0) (mVar 12)) (mC (.int 1))) (mCons (m2 ixD (mVar 1) (mVar 12)) (mCons (m2 ixD (mVar 3) (mVar 12)) (mCons (mVar 4) (mCons (mVar 10) mNil)))))) (ss := S) (rw := rw) (fun i : Nat => .int i) (fun i : Nat => spD (spotL P2 t (xs.getD i ([], 0, 0)))) (fun _ => true) (List.range ts.length) fun k hk => by
    rw [List.mem_range] at hk
    obtain ⟨x, hxk⟩ : ∃ x, xs[k]? = some x := ⟨_, List.getElem?_eq_getElem (by rw [H.lx]; omega)⟩
    obtain ⟨u, ht, et, ha, hb⟩ := H.at_ k x hxk
    have hf : (xs.map farOf)[k]? = some (farOf x) := by rw [List.getElem?_map, hxk]; rfl
    have gd : xs.getD k ([], 0, 0) = x := by rw [List.getD_eq_getElem?_getD, hxk]; rfl
    refine ⟨[.vl (.dat (thsD ts)), .vl (.dat (rowD a)), C, .vl (.dat (.list ((xs.map farOf).map .int))), .vl (.dat (.int P2)), S5, S6, S7, S8, S9, .vl (.dat (.int t)), S11, .vl (.dat (.int (k : Nat)))], rfl, rfl, fun _ => ?_⟩
    rw [gd]
    have ls := lspot_val P2 t (hx x (List.mem_of_getElem? hxk))
    rw [← et] at ls
    exact call_eq (cons_eq (m2_eq (g := ixD) (n := mC (.int 1)) (m2_eq (g := ixD) (m := mVar 0) (n := mVar 12) rfl rfl (ths_at ht)) rfl (th_marks u)) (cons_eq (m2_eq (g := ixD) (m := mVar 1) (n := mVar 12) rfl rfl (row_ix ha)) (cons_eq (m2_eq (g := ixD) (m := mVar 3) (n := mVar 12) rfl rfl (list_ix hf)) (cons_eq (m := mVar 4) rfl (cons_eq (m := mVar 10) rfl nil_eq))))) ls
  rw [List.filter_eq_self.mpr (fun _ _ => rfl)] at go
  have e : (List.range ts.length).map (fun i : Nat => spD (spotL P2 t (xs.getD i ([], 0, 0)))) = (xs.map (spotL P2 t)).map spD := by
    rw [← H.lx, List.map_map]
    refine range_map xs _ _ fun k x hxk => ?_
    rw [List.getD_eq_getElem?_getD, hxk]
    rfl
  rw [e] at go
  exact (lc_eq (vs := [12]) (mi := mRg1 (m1 lenD (mVar 0))) (ss := S) (rw := rw) (rw1 := rw) (by simp [noOwn, S]) (rg_things rfl hl) (by rw [List.length_map, List.length_range]; omega)).trans go
theorem hour_go {ts : List Thing} {a b : List Int} {xs : List Tri} (H : Hr ts a b xs) (hx : ∀ x ∈ xs, TriOk x) (hl : ts.length ≤ 1000) (P2 : Int) (T : List Int) (C S5 S8 : Sl) (n : Nat) : ∀ (k : Nat) (acc : List (List Spot)) (s7 s10 s11 : Sl) (rw : Ro), k + 1 + n = T.length → acc.length + n ≤ 1000 →
    ∃ s7' s10' s11', forGo (gNm 7) hrB ((List.range' (k + 1) n).map fun i => .int (i : Nat)) [.vl (.dat (thsD ts)), .vl (.dat (rowD a)), C, .vl (.dat (.list ((xs.map farOf).map .int))), .vl (.dat (.int P2)), S5, .vl (.dat (.list (T.map .int))), s7, S8, .own (acc.map rmD), s10, s11, .no] rw =
      some (.nx [.vl (.dat (thsD ts)), .vl (.dat (rowD a)), C, .vl (.dat (.list ((xs.map farOf).map .int))), .vl (.dat (.int P2)), S5, .vl (.dat (.list (T.map .int))), s7', S8, .own ((acc ++ midRooms P2 xs (T.drop k)).map rmD), s10', s11', .no] rw) := by
  induction n with
  | zero =>
    intro k acc s7 s10 s11 rw hk _
    refine ⟨s7, s10, s11, ?_⟩
    have e : midRooms P2 xs (T.drop k) = [] := by
      obtain ⟨u, hu⟩ : ∃ u, T.drop k = [u] := by
        have l1 : (T.drop k).length = 1 := by rw [List.length_drop]; omega
        exact List.length_eq_one_iff.mp l1
      rw [hu]
      rfl
    rw [e, List.append_nil]
    rfl
  | succ n ih =>
    intro k acc s7 s10 s11 rw hk hl2
    obtain ⟨u, hu⟩ : ∃ u, T[k]? = some u := ⟨_, List.getElem?_eq_getElem (by omega)⟩
    obtain ⟨v, hv⟩ : ∃ v, T[k + 1]? = some v := ⟨_, List.getElem?_eq_getElem (by omega)⟩
    have hd0 : T.drop k = u :: T.drop (k + 1) := by
      have hk' := List.getElem?_eq_some_iff.mp hu
      rw [List.drop_eq_getElem_cons hk'.1, hk'.2]
    have hd1 : T.drop (k + 1) = v :: T.drop (k + 2) := by
      have hk' := List.getElem?_eq_some_iff.mp hv
      rw [List.drop_eq_getElem_cons hk'.1, hk'.2]
    let S0 : List Sl := [.vl (.dat (thsD ts)), .vl (.dat (rowD a)), C, .vl (.dat (.list ((xs.map farOf).map .int))), .vl (.dat (.int P2)), S5, .vl (.dat (.list (T.map .int))), .vl (.dat (.int ((k + 1 : Nat) : Int))), S8, .own (acc.map rmD), s10, s11, .no]
    have kk : m2 subD (mVar 7) (mC (.int 1)) S0 rw = some (.dat (.int (k : Nat)), rw) := m2_eq (g := subD) (m := mVar 7) (n := mC (.int 1)) rfl rfl (by unfold subD i2 subI; simp only []; congr 3; omega)
    have st1 := set_eq (i := 10) (ss := S0) (rw := rw) (m2_eq (g := fdivD) (n := mC (.int 2)) (m2_eq (g := addD) (ixV_list (i := 6) (T := T) rfl kk hu) (ixV_list (i := 6) (fb := mVar 7) (T := T) (k := k + 1) rfl rfl hv) rfl) rfl (half_val (u + v))) (by simp [S0])
    have lc := spots_lc H hx hl P2 ((u + v) / 2) C S5 (.vl (.dat (.list (T.map .int)))) (.vl (.dat (.int ((k + 1 : Nat) : Int)))) S8 (.own (acc.map rmD)) s11 rw
    have st2 := set_eq (i := 11) (list_eq lc) (by simp)
    have st3 := app_eq (i := 9) (ds := acc.map rmD) (d := rmD (xs.map (spotL P2 ((u + v) / 2)))) (ss := [.vl (.dat (thsD ts)), .vl (.dat (rowD a)), C, .vl (.dat (.list ((xs.map farOf).map .int))), .vl (.dat (.int P2)), S5, .vl (.dat (.list (T.map .int))), .vl (.dat (.int ((k + 1 : Nat) : Int))), S8, .own (acc.map rmD), .vl (.dat (.int ((u + v) / 2))), .vl (.dat (.list ((xs.map (spotL P2 ((u + v) / 2))).map spD))), .no]) (rw := rw) rfl (m1_eq (g := tupleD) (m := mVar 11) rfl rfl) (by rw [List.length_map]; omega)
    obtain ⟨c, d, f, e⟩ := ih (k + 1) (acc ++ [xs.map (spotL P2 ((u + v) / 2))]) (.vl (.dat (.int ((k + 1 : Nat) : Int)))) (.vl (.dat (.int ((u + v) / 2)))) (.vl (.dat (.list ((xs.map (spotL P2 ((u + v) / 2))).map spD)))) rw (by omega) (by rw [List.length_append]; simp; omega)
    refine ⟨c, d, f, ?_⟩
    have e9 : (acc.map rmD ++ [rmD (xs.map (spotL P2 ((u + v) / 2)))]) = (acc ++ [xs.map (spotL P2 ((u + v) / 2))]).map rmD := by rw [List.map_append]; rfl
    rw [List.range'_succ, List.map_cons, forGo_step (ss1 := S0) rfl ((seq_nx st1).trans ((seq_nx st2).trans st3)), e9]
    have e8 : acc ++ midRooms P2 xs (T.drop k) = acc ++ [xs.map (spotL P2 ((u + v) / 2))] ++ midRooms P2 xs (T.drop (k + 1)) := by
      rw [hd0, hd1]
      simp [midRooms]
    rw [e8]
    exact e
theorem fars_lc {ts : List Thing} {a b : List Int} {xs : List Tri} (H : Hr ts a b xs) (hl : ts.length ≤ 1000) : mLc [7] (mRg1 (m1 lenD (mVar 0))) (gNm 7) mYes (m2 subD (m2 ixD (mVar 2) (mVar 7)) (m2 ixD (mVar 1) (mVar 7))) [.vl (.dat (thsD ts)), .vl (.dat (rowD a)), .vl (.dat (rowD b)), .no, .no, .no, .no, .no, .no, .no, .no, .no, .no] (0, 0) = some ((xs.map farOf).map .int, (0, 0)) := by
  let S : List Sl := [.vl (.dat (thsD ts)), .vl (.dat (rowD a)), .vl (.dat (rowD b)), .no, .no, .no, .no, .no, .no, .no, .no, .no, .no]
  have go := lcGo_map (g := gNm 7) (tt := mYes) (te := m2 subD (m2 ixD (mVar 2) (mVar 7)) (m2 ixD (mVar 1) (mVar 7))) (ss := S) (rw := (0, 0)) (fun i : Nat => .int i) (fun i : Nat => .int (farOf (xs.getD i ([], 0, 0)))) (fun _ => true) (List.range ts.length) fun k hk => by
    rw [List.mem_range] at hk
    obtain ⟨x, hxk⟩ : ∃ x, xs[k]? = some x := ⟨_, List.getElem?_eq_getElem (by rw [H.lx]; omega)⟩
    obtain ⟨u, ht, et, ha, hb⟩ := H.at_ k x hxk
    have gd : xs.getD k ([], 0, 0) = x := by rw [List.getD_eq_getElem?_getD, hxk]; rfl
    refine ⟨[.vl (.dat (thsD ts)), .vl (.dat (rowD a)), .vl (.dat (rowD b)), .no, .no, .no, .no, .vl (.dat (.int (k : Nat))), .no, .no, .no, .no, .no], rfl, rfl, fun _ => ?_⟩
    rw [gd]
    exact m2_eq (g := subD) (m2_eq (g := ixD) (m := mVar 2) (n := mVar 7) rfl rfl (row_ix hb)) (m2_eq (g := ixD) (m := mVar 1) (n := mVar 7) rfl rfl (row_ix ha)) rfl
  rw [List.filter_eq_self.mpr (fun _ _ => rfl)] at go
  have e : (List.range ts.length).map (fun i : Nat => PyData.int (farOf (xs.getD i ([], 0, 0)))) = (xs.map farOf).map .int := by
    rw [← H.lx, List.map_map]
    refine range_map xs _ _ fun k x hxk => ?_
    rw [List.getD_eq_getElem?_getD, hxk]
    rfl
  rw [e] at go
  exact (lc_eq (vs := [7]) (mi := mRg1 (m1 lenD (mVar 0))) (ss := S) (rw := (0, 0)) (rw1 := (0, 0)) rfl (rg_things rfl hl) (by rw [List.length_map, List.length_range]; omega)).trans go
theorem times_len (P2 : Int) {xs : List Tri} (h : ∀ x ∈ xs, TriOk x) : (times P2 xs).length ≤ 2 + xs.length * 3 := by
  unfold times
  rw [List.length_cons, List.length_cons]
  induction xs with
  | nil => simp
  | cons x xs ih =>
    have := ih fun q hq => h q (List.mem_cons_of_mem _ hq)
    have h3 := (h x List.mem_cons_self).1
    have ml : (timesOf P2 x).length ≤ 3 := by unfold timesOf; split; simp; rw [List.length_map]; exact h3
    rw [List.flatMap_cons, List.length_append, List.length_cons]
    omega
theorem sortI_pos {x : Int} (l : List Int) : 0 < (sortI (x :: l)).length := List.length_pos_of_mem (mem_sortI.mpr List.mem_cons_self)
theorem rg_from1 {n : Nat} (h : 0 < n) : rgD 1 ((n : Int) - 1).toNat = (List.range' 1 (n - 1)).map fun i => PyData.int (i : Nat) := by
  unfold rgD
  have e : ((n : Int) - 1).toNat = n - 1 := by omega
  rw [e, List.range'_eq_map_range, List.map_map]
  refine List.map_congr_left fun i _ => ?_
  show PyData.int (1 + (i : Int)) = PyData.int ((1 + i : Nat) : Int)
  congr 1
theorem rg2_eq {fa fb : Mx Vl} {ss : List Sl} {rw rw1 rw2 : Ro} {i j : Int} (ha : fa ss rw = some (.dat (.int i), rw1)) (hb : fb ss rw1 = some (.dat (.int j), rw2)) (h : (-1000000 ≤ i ∧ i ≤ 1000000) ∧ -1000000 ≤ j ∧ j ≤ 1000000) : mRg2 fa fb ss rw = some (rgD i (j - i).toNat, rw2) := by
  unfold mRg2 bnd
  rw [ha]
  simp only []
  rw [hb]
  simp only [opt]
  rw [if_pos h]
theorem hour_of_val {ts : List Thing} {a b : List Int} (ha : a.length = ts.length) (hb : b.length = ts.length) (hl : ts.length ≤ 3) (hx : ∀ x ∈ tri (ts.map (·.2)) a b, TriOk x) : F__law_hour_of [.dat (thsD ts), .dat (rowD a), .dat (rowD b)] = some (.dat (.list ((hourL (tri (ts.map (·.2)) a b)).map rmD))) := by
  have H := hr_tri ha hb
  generalize tri (ts.map (·.2)) a b = xs at H hx
  let F : Sl := .vl (.dat (.list ((xs.map farOf).map .int)))
  let P2 := partsL xs
  have st1 := set_eq (i := 3) (list_eq (fars_lc H (by omega))) (by simp)
  obtain ⟨c5, e5⟩ := lparts_go (.vl (.dat (thsD ts))) (.vl (.dat (rowD a))) (.vl (.dat (rowD b))) F .no .no .no .no .no .no .no (xs.map farOf) 2 .no (0, 0) (fun f hf => by
    obtain ⟨x, hxm, rfl⟩ := List.mem_map.mp hf
    obtain ⟨_, _, h1, h2⟩ := hx x hxm
    unfold farOf
    unfold Small at h1 h2
    omega)
  obtain ⟨c7, c8, e6⟩ := ltimes_go H hx P2 (.vl (.dat (rowD b))) c5 .no .no .no .no ts.length 0 [0, P2] .no .no (0, 0) (by omega) (by simp; omega)
  rw [List.drop_zero] at e6
  have tl := times_len P2 hx
  have lx := H.lx
  have sv := sortI_val (ns := times P2 xs) (by omega)
  have sl := sortI_len (times P2 xs)
  have sp : 0 < (sortI (times P2 xs)).length := sortI_pos _
  let T := sortI (times P2 xs)
  have hT1 : T.length ≤ 11 := by show (sortI (times P2 xs)).length ≤ 11; omega
  have hT0 : 0 < T.length := sp
  obtain ⟨d7, d10, d11, e7⟩ := hour_go H hx (by omega) P2 T (.vl (.dat (rowD b))) c5 c8 (T.length - 1) 0 [] c7 .no .no (0, 0) (by omega) (by simp; omega)
  rw [List.drop_zero, List.nil_append] at e7
  refine bodyP_rl (rw := (0, 0)) rfl ((seq_nx st1).trans ?_)
  refine (seq_nx (ss1 := [.vl (.dat (thsD ts)), .vl (.dat (rowD a)), .vl (.dat (rowD b)), F, .vl (.dat (.int 2)), .no, .no, .no, .no, .no, .no, .no, .no]) (rw1 := (0, 0)) rfl).trans ?_
  refine (seq_nx ((for_eq (xs := (xs.map farOf).map .int) (rw1 := (0, 0)) rfl).trans e5)).trans ?_
  refine (seq_nx (ss1 := [.vl (.dat (thsD ts)), .vl (.dat (rowD a)), .vl (.dat (rowD b)), F, .vl (.dat (.int P2)), c5, .own [.int 0, .int P2], .no, .no, .no, .no, .no, .no]) (rw1 := (0, 0)) rfl).trans ?_
  refine (seq_nx ((for_eq (xs := (List.range' 0 ts.length).map fun i => .int (i : Nat)) (rw1 := (0, 0)) (by rw [← List.range_eq_range']; exact rg_things rfl (by omega))).trans e6)).trans ?_
  have st6 := set_eq (i := 6) (m := m1 sortSetI (mVar 6)) (ss := [.vl (.dat (thsD ts)), .vl (.dat (rowD a)), .vl (.dat (rowD b)), F, .vl (.dat (.int P2)), c5, .vl (.dat (.list ((times P2 xs).map .int))), c7, c8, .no, .no, .no, .no]) (rw := (0, 0)) (m1_eq (g := sortSetI) (m := mVar 6) rfl sv) (by simp)
  have st7 : sFrz 6 (sSet 6 (m1 sortSetI (mVar 6))) [.vl (.dat (thsD ts)), .vl (.dat (rowD a)), .vl (.dat (rowD b)), F, .vl (.dat (.int P2)), c5, .own ((times P2 xs).map .int), c7, c8, .no, .no, .no, .no] (0, 0) = some (.nx [.vl (.dat (thsD ts)), .vl (.dat (rowD a)), .vl (.dat (rowD b)), F, .vl (.dat (.int P2)), c5, .vl (.dat (.list (T.map .int))), c7, c8, .no, .no, .no, .no] (0, 0)) := st6
  refine (seq_nx st7).trans ?_
  refine (seq_nx (ss1 := [.vl (.dat (thsD ts)), .vl (.dat (rowD a)), .vl (.dat (rowD b)), F, .vl (.dat (.int P2)), c5, .vl (.dat (.list (T.map .int))), c7, c8, .own [], .no, .no, .no]) (rw1 := (0, 0)) rfl).trans ?_
  have src : mRg2 (mC (.int 1)) (m1 lenD (mVar 6)) [.vl (.dat (thsD ts)), .vl (.dat (rowD a)), .vl (.dat (rowD b)), F, .vl (.dat (.int P2)), c5, .vl (.dat (.list (T.map .int))), c7, c8, .own [], .no, .no, .no] (0, 0) = some ((List.range' 1 (T.length - 1)).map fun i => .int (i : Nat), (0, 0)) := by
    have ln : m1 lenD (mVar 6) [.vl (.dat (thsD ts)), .vl (.dat (rowD a)), .vl (.dat (rowD b)), F, .vl (.dat (.int P2)), c5, .vl (.dat (.list (T.map .int))), c7, c8, .own [], .no, .no, .no] (0, 0) = some (.dat (.int (T.length : Nat)), (0, 0)) := m1_eq (g := lenD) (m := mVar 6) rfl (by unfold lenD; simp only [List.length_map])
    have h2 : (-1000000 ≤ (1 : Int) ∧ (1 : Int) ≤ 1000000) ∧ -1000000 ≤ (T.length : Int) ∧ (T.length : Int) ≤ 1000000 := by omega
    rw [rg2_eq (i := 1) rfl ln h2, rg_from1 sp]
  have st8 : sFrz 6 (sFor (mRg2 (mC (.int 1)) (m1 lenD (mVar 6))) (gNm 7) hrB) [.vl (.dat (thsD ts)), .vl (.dat (rowD a)), .vl (.dat (rowD b)), F, .vl (.dat (.int P2)), c5, .vl (.dat (.list (T.map .int))), c7, c8, .own [], .no, .no, .no] (0, 0) = some (.nx [.vl (.dat (thsD ts)), .vl (.dat (rowD a)), .vl (.dat (rowD b)), F, .vl (.dat (.int P2)), c5, .vl (.dat (.list (T.map .int))), d7, c8, .own ((midRooms P2 xs T).map rmD), d10, d11, .no] (0, 0)) := (for_eq src).trans e7
  exact (seq_nx st8).trans rfl
end Law
/-! Runs: the law's hour is the program's. -/
namespace Law
open PySem L2 FL
def farMul (P : Int) (x : Tri) : Int := if farOf x = 0 then P else P * absI (farOf x)
def partsX (xs : List Tri) : Int := xs.foldl farMul 1
theorem parts_zip : ∀ {mss : List (List Int)} {a b : List Int}, a.length = mss.length → b.length = mss.length → ∀ P, partsOf (a.zip b) P = (tri mss a b).foldl farMul P
  | [], [], [], _, _, P => rfl
  | m :: mss, u :: a, v :: b, ha, hb, P => by
    have ih := parts_zip (mss := mss) (a := a) (b := b) (by simpa using ha) (by simpa using hb) (farMul P (m, u, v))
    have e : stepP P (u, v) = farMul P (m, u, v) := by
      unfold stepP farMul farOf
      by_cases h : u = v
      · rw [if_pos h, if_pos (show v - u = 0 by omega)]
      · rw [if_neg h, if_neg (show ¬ v - u = 0 by omega)]
    unfold partsOf at ih ⊢
    rw [List.zip_cons_cons, List.foldl_cons, e, ih]
    rfl
  | [], _ :: _, _, h, _, _ => by simp at h
  | [], [], _ :: _, _, h, _ => by simp at h
  | _ :: _, [], _, h, _, _ => by simp at h
  | _ :: _, _ :: _, [], _, h, _ => by simp at h
theorem stepL_far (P : Int) (x : Tri) : stepL (2 * P) (farOf x) = 2 * farMul P x := by
  unfold stepL farMul
  by_cases h : farOf x = 0
  · rw [if_pos h, h]
    have : max 1 (absI 0) = 1 := by decide
    rw [this, Int.mul_one]
  · rw [if_neg h]
    have : max 1 (absI (farOf x)) = absI (farOf x) := by unfold absI; split <;> omega
    rw [this, Int.mul_assoc]
theorem partsL_eq (xs : List Tri) : partsL xs = 2 * partsX xs := by
  unfold partsL partsX
  have g : ∀ (xs : List Tri) (P : Int), (xs.map farOf).foldl stepL (2 * P) = 2 * xs.foldl farMul P := by
    intro xs
    induction xs with
    | nil => intro P; rfl
    | cons x xs ih => intro P; rw [List.map_cons, List.foldl_cons, stepL_far, ih]; rfl
  exact g xs 1
theorem far_pos {P : Int} (h : 0 < P) (x : Tri) : 0 < farMul P x := by
  unfold farMul
  split
  · exact h
  · exact Int.mul_pos h (by unfold absI; split <;> omega)
theorem fold_pos : ∀ (xs : List Tri) {P : Int}, 0 < P → 0 < xs.foldl farMul P
  | [], _, h => h
  | x :: xs, _, h => fold_pos xs (far_pos h x)
theorem far_dvd (P : Int) (x : Tri) : P ∣ farMul P x := by
  unfold farMul
  split
  · exact Int.dvd_refl _
  · exact Int.dvd_mul_right _ _
theorem fold_dvd : ∀ (xs : List Tri) (P : Int), P ∣ xs.foldl farMul P
  | [], _ => Int.dvd_refl _
  | x :: xs, P => Int.dvd_trans (far_dvd P x) (fold_dvd xs (farMul P x))
theorem far_self {P : Int} {x : Tri} (h : farOf x ≠ 0) : farOf x ∣ farMul P x := by
  unfold farMul
  rw [if_neg h]
  refine Int.dvd_trans ?_ (Int.dvd_mul_left _ _)
  unfold absI
  split
  · exact Int.dvd_neg.mpr (Int.dvd_refl _)
  · exact Int.dvd_refl _
theorem fold_far : ∀ (xs : List Tri) (P : Int) (x : Tri), x ∈ xs → farOf x ≠ 0 → ∃ q, xs.foldl farMul P = farOf x * q
  | y :: ys, P, x, hx, h => by
    rcases List.mem_cons.mp hx with rfl | hx
    · exact Int.dvd_trans (far_self h) (fold_dvd ys _)
    · exact fold_far ys _ x hx h
/-! ### the moments and the times -/
theorem lt_mul {a b q : Int} (h : 0 < q) : a * q < b * q ↔ a < b := ⟨fun z => Int.lt_of_mul_lt_mul_right z (Int.le_of_lt h), fun z => Int.mul_lt_mul_of_pos_right z h⟩
theorem lt_mulN {a b q : Int} (h : q < 0) : a * q < b * q ↔ b < a := by
  have := lt_mul (a := b) (b := a) (q := -q) (by omega)
  rw [Int.mul_neg, Int.mul_neg] at this
  constructor
  · intro z; exact this.mp (by omega)
  · intro z; have := this.mpr z; omega
theorem q_sign {f q P : Int} (hP : 0 < P) (h : P = f * q) : (0 < f ∧ 0 < q) ∨ (f < 0 ∧ q < 0) := by
  rw [h] at hP
  by_cases hf : 0 < f
  · refine .inl ⟨hf, ?_⟩
    have := lt_mul (a := 0) (b := q) hf
    rw [Int.zero_mul, Int.mul_comm] at this
    exact this.mp hP
  · by_cases h0 : f = 0
    · rw [h0, Int.zero_mul] at hP; omega
    · refine .inr ⟨by omega, ?_⟩
      have := lt_mulN (a := 0) (b := q) (q := f) (by omega)
      rw [Int.zero_mul, Int.mul_comm] at this
      exact this.mp hP
/-- within, of a thing that moves -/
theorem within {s e m q P : Int} (hP : 0 < P) (h : P = (e - s) * q) : (min s e < m ∧ m < max s e) ↔ (0 < (m - s) * q ∧ (m - s) * q < P) := by
  rcases q_sign hP h with ⟨hf, hq⟩ | ⟨hf, hq⟩
  · have a := lt_mul (a := 0) (b := m - s) hq
    have b := lt_mul (a := m - s) (b := e - s) hq
    rw [Int.zero_mul] at a
    rw [h, a, b]
    omega
  · have a := lt_mulN (a := 0) (b := m - s) hq
    have b := lt_mulN (a := m - s) (b := e - s) hq
    rw [Int.zero_mul] at a
    rw [h, a, b]
    omega
theorem mem_momentsOf {x : Tri} {P q t : Int} (hP : 0 < P) (h : P = farOf x * q) : t ∈ momentsOf P x ↔ ∃ m ∈ x.1, 0 < (m - x.2.1) * q ∧ (m - x.2.1) * q < P ∧ t = (m - x.2.1) * q := by
  have hf : farOf x ≠ 0 := fun z => by rw [z, Int.zero_mul] at h; omega
  have dv : ∀ m, ((m - x.2.1) * P).fdiv (x.2.2 - x.2.1) = (m - x.2.1) * q := fun m => by
    have e : (m - x.2.1) * P = (m - x.2.1) * q * farOf x := by rw [h]; grind
    rw [e]
    exact Int.mul_fdiv_cancel _ hf
  unfold momentsOf crossed
  rw [List.mem_map]
  constructor
  · rintro ⟨m, hm, rfl⟩
    obtain ⟨h1, h2⟩ := List.mem_filter.mp hm
    rw [Bool.and_eq_true, decide_eq_true_iff, decide_eq_true_iff, within hP h] at h2
    exact ⟨m, h1, h2.1, h2.2, dv m⟩
  · rintro ⟨m, hm, h1, h2, rfl⟩
    refine ⟨m, List.mem_filter.mpr ⟨hm, ?_⟩, dv m⟩
    rw [Bool.and_eq_true, decide_eq_true_iff, decide_eq_true_iff, within hP h]
    exact ⟨h1, h2⟩
theorem momentsOf_0 {x : Tri} {P : Int} (h : farOf x = 0) : momentsOf P x = [] := by
  unfold momentsOf crossed
  rw [List.filter_eq_nil_iff.mpr, List.map_nil]
  intro m _
  rw [Bool.and_eq_true, decide_eq_true_iff, decide_eq_true_iff]
  unfold farOf at h
  omega
theorem mem_timesOf {x : Tri} {P q t : Int} (hP : 0 < P) (h : P = farOf x * q) : t ∈ timesOf (2 * P) x ↔ ∃ m ∈ x.1, t = max 0 (min (2 * P) (2 * ((m - x.2.1) * q))) := by
  have hf : farOf x ≠ 0 := fun z => by rw [z, Int.zero_mul] at h; omega
  have dv : (2 * P).fdiv (farOf x) = 2 * q := by
    have e : 2 * P = 2 * q * farOf x := by rw [h]; grind
    rw [e]
    exact Int.mul_fdiv_cancel _ hf
  unfold timesOf
  rw [if_neg hf, List.mem_map]
  have cl : ∀ m, clampT (2 * P) x m = max 0 (min (2 * P) (2 * ((m - x.2.1) * q))) := fun m => by
    unfold clampT
    rw [dv]
    have : (m - x.2.1) * (2 * q) = 2 * ((m - x.2.1) * q) := by grind
    rw [this]
  constructor
  · rintro ⟨m, hm, rfl⟩; exact ⟨m, hm, cl m⟩
  · rintro ⟨m, hm, rfl⟩; exact ⟨m, hm, cl m⟩
/-- what the parts of an hour are good for -/
def PartsOk (P : Int) (xs : List Tri) : Prop := 0 < P ∧ ∀ x ∈ xs, farOf x ≠ 0 → ∃ q, P = farOf x * q
theorem parts_ok (xs : List Tri) : PartsOk (partsX xs) xs := ⟨fold_pos xs (by decide), fun x hx h => fold_far xs 1 x hx h⟩
theorem moments_in {P : Int} {xs : List Tri} (h : PartsOk P xs) {t : Int} (ht : t ∈ moments P xs) : 0 ≤ t ∧ t < P := by
  have hP := h.1
  unfold moments at ht
  rcases List.mem_cons.mp ht with rfl | ht
  · omega
  · obtain ⟨x, hx, hm⟩ := List.mem_flatMap.mp ht
    by_cases hf : farOf x = 0
    · rw [momentsOf_0 hf] at hm; simp at hm
    · obtain ⟨q, hq⟩ := h.2 x hx hf
      obtain ⟨m, _, h1, h2, rfl⟩ := (mem_momentsOf hP hq).mp hm
      omega
theorem mem_times {P : Int} {xs : List Tri} (h : PartsOk P xs) (t : Int) : t ∈ times (2 * P) xs ↔ (∃ u ∈ moments P xs, t = 2 * u) ∨ t = 2 * P := by
  have hP := h.1
  unfold times
  rw [List.mem_cons, List.mem_cons, List.mem_flatMap]
  constructor
  · rintro (rfl | rfl | ⟨x, hx, hm⟩)
    · exact .inl ⟨0, List.mem_cons_self, rfl⟩
    · exact .inr rfl
    · by_cases hf : farOf x = 0
      · unfold timesOf at hm; rw [if_pos hf] at hm; simp at hm
      · obtain ⟨q, hq⟩ := h.2 x hx hf
        obtain ⟨m, hm2, rfl⟩ := (mem_timesOf hP hq).mp hm
        by_cases h1 : (m - x.2.1) * q ≤ 0
        · exact .inl ⟨0, List.mem_cons_self, by omega⟩
        · by_cases h2 : P ≤ (m - x.2.1) * q
          · exact .inr (by omega)
          · refine .inl ⟨(m - x.2.1) * q, List.mem_cons_of_mem _ (List.mem_flatMap.mpr ⟨x, hx, (mem_momentsOf hP hq).mpr ⟨m, hm2, by omega, by omega, rfl⟩⟩), by omega⟩
  · rintro (⟨u, hu, rfl⟩ | rfl)
    · rcases List.mem_cons.mp hu with rfl | hu
      · exact .inl rfl
      · obtain ⟨x, hx, hm⟩ := List.mem_flatMap.mp hu
        by_cases hf : farOf x = 0
        · rw [momentsOf_0 hf] at hm; simp at hm
        · obtain ⟨q, hq⟩ := h.2 x hx hf
          obtain ⟨m, hm2, h1, h2, rfl⟩ := (mem_momentsOf hP hq).mp hm
          exact .inr (.inr ⟨x, hx, (mem_timesOf hP hq).mpr ⟨m, hm2, by omega⟩⟩)
    · exact .inr (.inl rfl)
def ends (P : Int) (xs : List Tri) : List Int := sortI (moments P xs) ++ [P]
theorem up_ends {P : Int} {xs : List Tri} (h : PartsOk P xs) : (ends P xs).Pairwise (· < ·) := by
  unfold ends
  rw [List.pairwise_append]
  refine ⟨up_sortI _, List.pairwise_singleton _ _, fun a ha b hb => ?_⟩
  rw [List.mem_singleton] at hb
  rw [hb]
  exact (moments_in h (mem_sortI.mp ha)).2
theorem mem_ends {P : Int} {xs : List Tri} {t : Int} : t ∈ ends P xs ↔ t ∈ moments P xs ∨ t = P := by
  unfold ends
  rw [List.mem_append, mem_sortI, List.mem_singleton]
theorem times_eq {P : Int} {xs : List Tri} (h : PartsOk P xs) : sortI (times (2 * P) xs) = (ends P xs).map (2 * ·) := by
  refine upI_one (up_sortI _) ?_ fun t => ?_
  · rw [List.pairwise_map]
    exact (up_ends h).imp fun z => by omega
  · rw [mem_sortI, mem_times h, List.mem_map]
    constructor
    · rintro (⟨u, hu, rfl⟩ | rfl)
      · exact ⟨u, mem_ends.mpr (.inl hu), rfl⟩
      · exact ⟨P, mem_ends.mpr (.inr rfl), rfl⟩
    · rintro ⟨u, hu, rfl⟩
      rcases mem_ends.mp hu with hu | rfl
      · exact .inl ⟨u, hu, rfl⟩
      · exact .inr rfl
/-! ### behind a moment, and midway to the one that comes next -/
def cntEq (ms : List Int) (n : Int) : Nat := (ms.filter fun m => decide (m = n)).length
theorem fold_count {P P2 N n k : Int} : ∀ (ms : List Int) (pl : Int), (∀ m ∈ ms, (if m * P2 < N then (1 : Int) else 0) + (if m * P2 ≤ N then 1 else 0) = 2 * (if m * P < n then 1 else 0) + k * (if m * P = n then 1 else 0)) →
    ms.foldl (plStep P2 N) pl = pl + 2 * (cntLt (ms.map (· * P)) n : Nat) + k * (cntEq (ms.map (· * P)) n : Nat)
  | [], pl, _ => by simp [cntLt, cntEq]
  | m :: ms, pl, h => by
    have ih := fold_count (P := P) (P2 := P2) (N := N) (n := n) (k := k) ms (plStep P2 N pl m) fun z hz => h z (List.mem_cons_of_mem _ hz)
    have hm := h m List.mem_cons_self
    rw [List.foldl_cons, ih]
    have c1 : ((cntLt ((m :: ms).map (· * P)) n : Nat) : Int) = (if m * P < n then 1 else 0) + (cntLt (ms.map (· * P)) n : Nat) := by
      unfold cntLt
      rw [List.map_cons, List.filter_cons]
      by_cases z : m * P < n
      · simp [z]; omega
      · simp [z]
    have c2 : ((cntEq ((m :: ms).map (· * P)) n : Nat) : Int) = (if m * P = n then 1 else 0) + (cntEq (ms.map (· * P)) n : Nat) := by
      unfold cntEq
      rw [List.map_cons, List.filter_cons]
      by_cases z : m * P = n
      · simp [z]; omega
      · simp [z]
    rw [c1, c2, Int.mul_add, Int.mul_add]
    unfold plStep
    omega
theorem cntEq_nodup {n : Int} : ∀ {ms : List Int}, ms.Nodup → cntEq ms n = if n ∈ ms then 1 else 0
  | [], _ => by simp [cntEq]
  | m :: ms, h => by
    obtain ⟨h1, h2⟩ := List.nodup_cons.mp h
    have ih := cntEq_nodup (n := n) h2
    unfold cntEq at ih ⊢
    rw [List.filter_cons]
    by_cases z : m = n
    · subst z
      rw [if_pos (by simp), List.length_cons, ih, if_neg h1, if_pos List.mem_cons_self]
    · rw [if_neg (by simp [z]), ih]
      have : n ∈ m :: ms ↔ n ∈ ms := by rw [List.mem_cons]; exact ⟨fun w => w.resolve_left fun e => z e.symm, .inr⟩
      simp only [this]
theorem sgn_trL (f : Int) : sgn f = trL f := by
  unfold sgn trL
  by_cases h1 : 0 < f
  · rw [if_pos h1, if_pos h1, if_neg (by omega)]; rfl
  · by_cases h2 : f < 0
    · rw [if_neg h1, if_pos h2, if_neg h1, if_pos h2]; rfl
    · rw [if_neg h1, if_neg h2, if_neg h1, if_neg h2]; rfl
theorem one_mark {P s e u v m : Int} (hP : 0 < P) (huv : u < v) (h : e - s ≠ 0 → ∃ q, P = (e - s) * q ∧ ((m - s) * q ≤ u ∨ v ≤ (m - s) * q)) :
    (if m * (2 * P) < s * (2 * P) + (e - s) * (u + v) then (1 : Int) else 0) + (if m * (2 * P) ≤ s * (2 * P) + (e - s) * (u + v) then 1 else 0) = 2 * (if m * P < s * P + (e - s) * u then 1 else 0) + (1 + trL (e - s)) * (if m * P = s * P + (e - s) * u then 1 else 0) := by
  by_cases hf : e - s = 0
  · rw [hf, Int.zero_mul, Int.zero_mul]
    have e1 : m * (2 * P) = 2 * (m * P) := by grind
    have e2 : s * (2 * P) = 2 * (s * P) := by grind
    have e3 : trL 0 = 0 := by decide
    rw [e1, e2, e3]
    split <;> split <;> split <;> split <;> omega
  · obtain ⟨q, hq, hc⟩ := h hf
    generalize hc0 : (m - s) * q = c at hc
    have e1 : m * (2 * P) = s * (2 * P) + (2 * c) * (e - s) := by rw [← hc0, hq]; grind
    have e2 : m * P = s * P + c * (e - s) := by rw [← hc0, hq]; grind
    have e3 : (e - s) * (u + v) = (u + v) * (e - s) := Int.mul_comm _ _
    have e4 : (e - s) * u = u * (e - s) := Int.mul_comm _ _
    rw [e1, e2, e3, e4]
    generalize s * (2 * P) = A
    generalize s * P = B
    rcases q_sign hP hq with ⟨hf, _⟩ | ⟨hf, _⟩
    · have a1 := lt_mul (a := 2 * c) (b := u + v) hf
      have a2 := lt_mul (a := u + v) (b := 2 * c) hf
      have a3 := lt_mul (a := c) (b := u) hf
      have a4 := lt_mul (a := u) (b := c) hf
      have t : trL (e - s) = 1 := by unfold trL; rw [if_pos hf, if_neg (by omega)]; rfl
      rw [t]
      generalize (2 * c) * (e - s) = X at *
      generalize (u + v) * (e - s) = Y at *
      generalize c * (e - s) = Z at *
      generalize u * (e - s) = W at *
      split <;> split <;> split <;> split <;> omega
    · have a1 := lt_mulN (a := 2 * c) (b := u + v) hf
      have a2 := lt_mulN (a := u + v) (b := 2 * c) hf
      have a3 := lt_mulN (a := c) (b := u) hf
      have a4 := lt_mulN (a := u) (b := c) hf
      have t : trL (e - s) = -1 := by unfold trL; rw [if_neg (by omega), if_pos hf]; rfl
      rw [t]
      generalize (2 * c) * (e - s) = X at *
      generalize (u + v) * (e - s) = Y at *
      generalize c * (e - s) = Z at *
      generalize u * (e - s) = W at *
      split <;> split <;> split <;> split <;> omega
theorem spot_eq {x : Tri} {P u v : Int} (hP : 0 < P) (nd : x.1.Nodup) (huv : u < v) (h : farOf x ≠ 0 → ∃ q, P = farOf x * q ∧ ∀ m ∈ x.1, (m - x.2.1) * q ≤ u ∨ v ≤ (m - x.2.1) * q) : spotL (2 * P) (u + v) x = behind P u x := by
  have fc := fold_count (P := P) (P2 := 2 * P) (N := numL (2 * P) (u + v) x) (n := x.2.1 * P + (x.2.2 - x.2.1) * u) (k := 1 + trL (x.2.2 - x.2.1)) x.1 0 fun m hm => one_mark hP huv fun hf => by
    obtain ⟨q, h1, h2⟩ := h hf
    exact ⟨q, h1, h2 m hm⟩
  have nd2 : (x.1.map (· * P)).Nodup := by
    rw [List.Nodup, List.pairwise_map]
    exact nd.imp fun hab z => hab (Int.eq_of_mul_eq_mul_right (by omega) z)
  rw [cntEq_nodup nd2] at fc
  unfold spotL behind stOf placeOf
  rw [fc, sgn_trL]
  by_cases z : x.2.1 * P + (x.2.2 - x.2.1) * u ∈ x.1.map (· * P)
  · simp only [if_pos z]
    rw [if_pos (by omega)]
    congr 1
    simp only [Int.natCast_one, Int.mul_one]
    omega
  · simp only [if_neg z]
    rw [if_neg (by omega)]
    congr 1
    simp only [Int.natCast_zero, Int.mul_zero]
    omega
theorem zip_tail : ∀ {W : List Int}, W.Pairwise (· < ·) → ∀ p ∈ W.zip W.tail, p.1 < p.2 ∧ ∀ w ∈ W, w ≤ p.1 ∨ p.2 ≤ w
  | [], _, p, hp => by simp at hp
  | [a], _, p, hp => by simp at hp
  | a :: b :: l, h, p, hp => by
    obtain ⟨h1, h2⟩ := List.pairwise_cons.mp h
    rw [List.tail_cons, List.zip_cons_cons] at hp
    rcases List.mem_cons.mp hp with rfl | hp
    · refine ⟨h1 b List.mem_cons_self, fun w hw => ?_⟩
      rcases List.mem_cons.mp hw with rfl | hw
      · exact .inl (Int.le_refl _)
      · rcases List.mem_cons.mp hw with rfl | hw
        · exact .inr (Int.le_refl _)
        · exact .inr (Int.le_of_lt ((List.pairwise_cons.mp h2).1 w hw))
    · obtain ⟨i1, i2⟩ := zip_tail h2 p hp
      have h3 := h1 p.1 (List.of_mem_zip hp).1
      refine ⟨i1, fun w hw => ?_⟩
      rcases List.mem_cons.mp hw with e | hw
      · exact .inl (by omega)
      · exact i2 w hw
theorem zip_fst {β : Type} (h : Int → β) : ∀ W : List Int, (W.zip W.tail).map (fun p => h p.1) = W.dropLast.map h
  | [] => rfl
  | [a] => rfl
  | a :: b :: l => by
    have ih := zip_fst h (b :: l)
    rw [List.tail_cons] at ih ⊢
    rw [List.zip_cons_cons, List.map_cons, ih]
    rfl
theorem hour_eq {xs : List Tri} (nd : ∀ x ∈ xs, x.1.Nodup) : hourL xs = hourP (partsX xs) xs := by
  have h := parts_ok xs
  have hP := h.1
  unfold hourL hourP midRooms
  rw [partsL_eq]
  generalize partsX xs = P at h hP
  rw [times_eq h, ← List.map_tail, List.zip_map, List.map_map]
  have ed : (ends P xs).dropLast = sortI (moments P xs) := by unfold ends; exact List.dropLast_concat
  rw [← ed, ← zip_fst]
  refine List.map_congr_left fun p hp => ?_
  obtain ⟨h1, h2⟩ := zip_tail (up_ends h) p hp
  have hu := (List.of_mem_zip hp).1
  have hv := List.mem_of_mem_tail (List.of_mem_zip hp).2
  have h0 : ∀ w ∈ ends P xs, 0 ≤ w ∧ w ≤ P := fun w hw => by
    rcases mem_ends.mp hw with z | rfl
    · have := moments_in h z; omega
    · omega
  have u0 := h0 _ hu
  have v0 := h0 _ hv
  have half : (2 * p.1 + 2 * p.2) / 2 = p.1 + p.2 := by omega
  show xs.map (spotL (2 * P) ((2 * p.1 + 2 * p.2) / 2)) = xs.map (behind P p.1)
  rw [half]
  refine List.map_congr_left fun x hx => spot_eq hP (nd x hx) h1 fun hf => ?_
  obtain ⟨q, hq⟩ := h.2 x hx hf
  refine ⟨q, hq, fun m hm => ?_⟩
  by_cases c1 : (m - x.2.1) * q ≤ 0
  · exact .inl (by omega)
  · by_cases c2 : P ≤ (m - x.2.1) * q
    · exact .inr (by omega)
    · exact h2 _ (mem_ends.mpr (.inl (List.mem_cons_of_mem _ (List.mem_flatMap.mpr ⟨x, hx, (mem_momentsOf hP hq).mpr ⟨m, hm, by omega, by omega, rfl⟩⟩))))
end Law
/-! Runs: passed, by the program and by the law. -/
namespace Law
open PySem L2 FL
/-! ### rows and things -/
structure RowOk (ts : List Thing) (r : List Int) : Prop where
  len : r.length = ts.length
  sm : Smalls r
def RowsOk (ts : List Thing) (rows : List (List Int)) : Prop := ∀ r ∈ rows, RowOk ts r
theorem tri_mem : ∀ {mss : List (List Int)} {a b : List Int} {x : Tri}, x ∈ tri mss a b → x.1 ∈ mss ∧ x.2.1 ∈ a ∧ x.2.2 ∈ b
  | m :: mss, u :: a, v :: b, x, h => by
    unfold tri at h
    rcases List.mem_cons.mp h with rfl | h
    · exact ⟨List.mem_cons_self, List.mem_cons_self, List.mem_cons_self⟩
    · obtain ⟨h1, h2, h3⟩ := tri_mem h
      exact ⟨List.mem_cons_of_mem _ h1, List.mem_cons_of_mem _ h2, List.mem_cons_of_mem _ h3⟩
  | [], _, _, _, h => by simp [tri] at h
  | _ :: _, [], _, _, h => by simp [tri] at h
  | _ :: _, _ :: _, [], _, h => by simp [tri] at h
theorem marks_nodup {ms : List Int} (h : MarksOk ms) : ms.Nodup := by
  rcases three_cases h.l1 h.l3 with ⟨a, rfl⟩ | ⟨a, b, rfl⟩ | ⟨a, b, c, rfl⟩
  · simp
  · have := h.gap 0 a b rfl rfl
    simp; omega
  · have g1 := h.gap 0 a b rfl rfl
    have g2 := h.gap 1 b c rfl rfl
    simp; omega
theorem marks_small {ms : List Int} (h : MarksOk ms) : Smalls ms := fun m hm => by
  have := h.in_ m hm
  unfold Small
  omega
section
variable {ts : List Thing} (hts : HouseOk ts)
include hts
theorem tri_ok {a b : List Int} (ha : RowOk ts a) (hb : RowOk ts b) : ∀ x ∈ tri (ts.map (·.2)) a b, TriOk x ∧ MarksOk x.1 := fun x hx => by
  obtain ⟨h1, h2, h3⟩ := tri_mem hx
  obtain ⟨t, ht, e⟩ := List.mem_map.mp h1
  have mk := hts.mks t ht
  rw [e] at mk
  exact ⟨⟨mk.l3, marks_small mk, ha.sm _ h2, hb.sm _ h3⟩, mk⟩
theorem tri_len {a b : List Int} (ha : RowOk ts a) (hb : RowOk ts b) : (tri (ts.map (·.2)) a b).length = ts.length := (hr_tri ha.len hb.len).lx
omit hts in
/-- an hour's rooms -/
def hrOf (ts : List Thing) (p : List Int × List Int) : List (List Spot) := hourL (tri (ts.map (·.2)) p.1 p.2)
theorem hr_law {a b : List Int} (ha : RowOk ts a) (hb : RowOk ts b) : F__law_hour_of [.dat (thsD ts), .dat (rowD a), .dat (rowD b)] = some (.dat (.list ((hrOf ts (a, b)).map rmD))) :=
  hour_of_val ha.len hb.len hts.l3 fun x hx => (tri_ok hts ha hb x hx).1
theorem hr_eq {a b : List Int} (ha : RowOk ts a) (hb : RowOk ts b) : hrOf ts (a, b) = hourP (partsOf (a.zip b) 1) (tri (ts.map (·.2)) a b) := by
  unfold hrOf
  rw [hour_eq fun x hx => marks_nodup (tri_ok hts ha hb x hx).2, parts_zip (mss := ts.map (·.2)) (by rw [List.length_map]; exact ha.len) (by rw [List.length_map]; exact hb.len) 1]
  rfl
theorem hr_prog {a b : List Int} (ha : RowOk ts a) (hb : RowOk ts b) : F_rooms_of_hour [.dat (.list ((ts.map (·.2)).map mkD)), .dat (rowD a), .dat (rowD b)] = some (.dat (.list ((hrOf ts (a, b)).map rmD))) := by
  rw [hr_eq hts ha hb]
  exact rooms_hour_val ha.sm hb.sm (fun x hx => (tri_ok hts ha hb x hx).1) (by rw [tri_len hts ha hb]; exact hts.l3)
theorem hr_len {a b : List Int} (ha : RowOk ts a) (hb : RowOk ts b) : (hrOf ts (a, b)).length ≤ 10 := by
  rw [hr_eq hts ha hb]
  unfold hourP
  rw [List.length_map]
  have h1 := sortI_len (moments (partsOf (a.zip b) 1) (tri (ts.map (·.2)) a b))
  have h2 := moments_len (partsOf (a.zip b) 1) (fun x hx => (tri_ok hts ha hb x hx).1)
  have h3 := tri_len hts ha hb
  have h4 := hts.l3
  omega
omit hts in
theorem sgn_trend (n : Int) : Trend (sgn n) := by
  unfold Trend sgn
  split
  · exact .inr (.inr rfl)
  · split
    · exact .inl rfl
    · exact .inr (.inl rfl)
theorem hr_ok {a b : List Int} (ha : RowOk ts a) (hb : RowOk ts b) : ∀ r ∈ hrOf ts (a, b), RoomOk ts.length r := fun r hr => by
  rw [hr_eq hts ha hb] at hr
  unfold hourP at hr
  obtain ⟨t, _, rfl⟩ := List.mem_map.mp hr
  refine ⟨by rw [List.length_map]; exact tri_len hts ha hb, fun s hs => ?_⟩
  obtain ⟨x, _, rfl⟩ := List.mem_map.mp hs
  unfold behind stOf
  split
  · exact sgn_trend _
  · exact sgn_trend _
end
/-! ### rooms put down, none twice in a row -/
def addR (acc : List (List Spot)) (r : List Spot) : List (List Spot) := if acc.getLast? = some r then acc else acc ++ [r]
theorem addR_len (acc : List (List Spot)) (r : List Spot) : (addR acc r).length ≤ acc.length + 1 := by
  unfold addR
  split
  · omega
  · rw [List.length_append]; simp
theorem addAll_len : ∀ (rs acc : List (List Spot)), (rs.foldl addR acc).length ≤ acc.length + rs.length
  | [], acc => by simp
  | r :: rs, acc => by
    have := addAll_len rs (addR acc r)
    have h := addR_len acc r
    rw [List.foldl_cons, List.length_cons]
    omega
def addH (ts : List Thing) (acc : List (List Spot)) (p : List Int × List Int) : List (List Spot) := (hrOf ts p).foldl addR acc
def passB (ts : List Thing) (rows : List (List Int)) : List (List Spot) := (rows.zip rows.tail).foldl (addH ts) []
theorem eqvAll_rooms : ∀ a b : List (List Spot), PyData.eqvAll (a.map rmD) (b.map rmD) = decide (a = b)
  | [], [] => by simp [PyData.eqvAll]
  | [], y :: b => by simp [PyData.eqvAll]
  | x :: a, [] => by simp [PyData.eqvAll]
  | x :: a, y :: b => by
    rw [List.map_cons, List.map_cons]
    unfold PyData.eqvAll
    have e : PyData.eqv (rmD x) (rmD y) = decide (x = y) := by
      show PyData.eqv (.tuple (x.map spD)) (.tuple (y.map spD)) = _
      unfold PyData.eqv
      exact eqvAll_spots x y
    rw [e, eqvAll_rooms a b]
    by_cases h : x = y <;> by_cases g : a = b <;> simp [h, g]
theorem eq_lrooms (a b : List (List Spot)) : eqO (.list (a.map rmD)) (.list (b.map rmD)) = some (decide (a = b)) := by
  cases a with
  | nil =>
    cases b with
    | nil => rfl
    | cons y b =>
      have e : eqO (.list (([] : List (List Spot)).map rmD)) (.list ((y :: b).map rmD)) = if SeqAt.shaped (.list (([] : List (List Spot)).map rmD)) = true ∧ SeqAt.shaped (.list ((y :: b).map rmD)) = true then some (PyData.eqv (.list (([] : List (List Spot)).map rmD)) (.list ((y :: b).map rmD))) else none := rfl
      rw [e, if_pos ⟨shaped_rooms [], shaped_rooms _⟩]
      rfl
  | cons x a =>
    have e : eqO (.list ((x :: a).map rmD)) (.list (b.map rmD)) = if SeqAt.shaped (.list ((x :: a).map rmD)) = true ∧ SeqAt.shaped (.list (b.map rmD)) = true then some (PyData.eqv (.list ((x :: a).map rmD)) (.list (b.map rmD))) else none := rfl
    rw [e, if_pos ⟨shaped_rooms _, shaped_rooms _⟩]
    congr 1
    unfold PyData.eqv
    exact eqvAll_rooms (x :: a) b
theorem eq_lroomsD (a b : List (List Spot)) : eqD (.dat (.list (a.map rmD))) (.dat (.list (b.map rmD))) = some (.dat (.bool (decide (a = b)))) := by
  unfold eqD
  simp only [eq_lrooms]
theorem ne_lroomsD (a b : List (List Spot)) : neD (.dat (.list (a.map rmD))) (.dat (.list (b.map rmD))) = some (.dat (.bool (!decide (a = b)))) := by
  unfold neD
  simp only [eq_lrooms]
theorem sl_last (acc : List (List Spot)) : slD (.dat (.list (acc.map rmD))) (some (-1)) none = some (.dat (.list (acc.getLast?.toList.map rmD))) := by
  unfold slD cutD
  have e1 : HT.sIx (acc.map rmD).length 0 (some (-1)) = acc.length - 1 := by
    unfold HT.sIx
    simp only []
    rw [if_pos (by decide), List.length_map]
    omega
  have e2 : HT.sIx (acc.map rmD).length (acc.map rmD).length none = acc.length := by
    rw [HT.sIx_none, List.length_map]
  simp only [e1, e2]
  rw [← List.map_drop, ← List.map_take]
  congr 4
  rcases List.eq_nil_or_concat acc with rfl | ⟨l, r, rfl⟩
  · rfl
  · simp
abbrev hvB : Sx := sIf (mBor 3 (mTst (m2 neD (mSl (mVar 3) (mSome (m1 negD (mC (.int 1)))) mNone) (mList (mLst (mCons (mVar 6) mNil)))))) (sApp 3 (mVar 6)) sNx
theorem had_go (h r m u v : Vl) : ∀ (rs acc : List (List Spot)) (s6 : Sl), acc.length + rs.length ≤ 1000 →
    ∃ s6', forGo (gNm 6) hvB (rs.map rmD) [.vl h, .vl r, .vl m, .own (acc.map rmD), .vl u, .vl v, s6, .no, .no] (0, 0) = some (.nx [.vl h, .vl r, .vl m, .own ((rs.foldl addR acc).map rmD), .vl u, .vl v, s6', .no, .no] (0, 0)) := by
  intro rs
  induction rs with
  | nil => intro acc s6 _; exact ⟨s6, rfl⟩
  | cons o rs ih =>
    intro acc s6 hl
    rw [List.length_cons] at hl
    have al := addR_len acc o
    obtain ⟨a, e⟩ := ih (addR acc o) (.vl (.dat (rmD o))) (by omega)
    refine ⟨a, ?_⟩
    let S : List Sl := [.vl h, .vl r, .vl m, .own (acc.map rmD), .vl u, .vl v, .vl (.dat (rmD o)), .no, .no]
    let S' : List Sl := [.vl h, .vl r, .vl m, .vl (.dat (.list (acc.map rmD))), .vl u, .vl v, .vl (.dat (rmD o)), .no, .no]
    have t0 : mTst (m2 neD (mSl (mVar 3) (mSome (m1 negD (mC (.int 1)))) mNone) (mList (mLst (mCons (mVar 6) mNil)))) S' (0, 0) = some (!decide (acc.getLast?.toList = [o]), (0, 0)) :=
      tst_eq (m2_eq (g := neD) (sl_eq (fa := mVar 3) (fl := mSome (m1 negD (mC (.int 1)))) (fh := mNone) (l := some (-1)) (h := none) rfl rfl rfl (sl_last acc)) (y := .dat (.list ([o].map rmD))) rfl (ne_lroomsD _ _))
    have t1 : mBor 3 (mTst (m2 neD (mSl (mVar 3) (mSome (m1 negD (mC (.int 1)))) mNone) (mList (mLst (mCons (mVar 6) mNil))))) S (0, 0) = some (!decide (acc.getLast?.toList = [o]), (0, 0)) := bor_eq (rw1 := (0, 0)) t0
    have ie : acc.getLast?.toList = [o] ↔ acc.getLast? = some o := by cases acc.getLast? <;> simp
    have st : hvB S (0, 0) = some (.nx [.vl h, .vl r, .vl m, .own ((addR acc o).map rmD), .vl u, .vl v, .vl (.dat (rmD o)), .no, .no] (0, 0)) := by
      unfold addR
      by_cases z : acc.getLast? = some o
      · rw [if_pos z]
        rw [decide_eq_true (ie.mpr z)] at t1
        exact (ifF t1).trans rfl
      · rw [if_neg z]
        rw [decide_eq_false (fun w => z (ie.mp w))] at t1
        have e9 : (acc ++ [o]).map rmD = acc.map rmD ++ [rmD o] := by rw [List.map_append]; rfl
        rw [e9]
        exact (ifT t1).trans (app_eq (i := 3) (ds := acc.map rmD) (d := rmD o) (ss := S) rfl rfl (by rw [List.length_map]; omega))
    rw [List.map_cons, List.foldl_cons, forGo_step (ss1 := S) rfl st]
    exact e
theorem zpr_map : ∀ a b : List (List Int), zpD (a.map rowD) (b.map rowD) = (a.zip b).map fun p => .tuple [rowD p.1, rowD p.2]
  | [], _ => by simp [zpD]
  | _ :: _, [] => by simp [zpD]
  | a :: as, b :: bs => by
    have ih := zpr_map as bs
    rw [List.map_cons, List.map_cons, List.zip_cons_cons, List.map_cons]
    unfold zpD
    rw [ih]
abbrev psB : Sx := sFor (mSeq (mCall F_rooms_of_hour (mCons (mVar 2) (mCons (mVar 4) (mCons (mVar 5) mNil))))) (gNm 6) hvB
abbrev psG : PyData → List Sl → Option (List Sl) := gTp 2 (gsCons (gNm 4) (gsCons (gNm 5) gsNil))
theorem pas_go {ts : List Thing} (hts : HouseOk ts) (h r : Vl) : ∀ (ps : List (List Int × List Int)) (acc : List (List Spot)) (s4 s5 s6 : Sl), (∀ p ∈ ps, RowOk ts p.1 ∧ RowOk ts p.2) → acc.length + ps.length * 10 ≤ 1000 →
    ∃ s4' s5' s6', forGo psG psB (ps.map fun p => .tuple [rowD p.1, rowD p.2]) [.vl h, .vl r, .vl (.dat (.list ((ts.map (·.2)).map mkD))), .own (acc.map rmD), s4, s5, s6, .no, .no] (0, 0) =
      some (.nx [.vl h, .vl r, .vl (.dat (.list ((ts.map (·.2)).map mkD))), .own ((ps.foldl (addH ts) acc).map rmD), s4', s5', s6', .no, .no] (0, 0)) := by
  intro ps
  induction ps with
  | nil => intro acc s4 s5 s6 _ _; exact ⟨s4, s5, s6, rfl⟩
  | cons p ps ih =>
    intro acc s4 s5 s6 hp hl
    rw [List.length_cons] at hl
    obtain ⟨ha, hb⟩ := hp p List.mem_cons_self
    have hlen : (hrOf ts p).length ≤ 10 := hr_len hts ha hb
    have al := addAll_len (hrOf ts p) acc
    obtain ⟨x6, e1⟩ := had_go h r (.dat (.list ((ts.map (·.2)).map mkD))) (.dat (rowD p.1)) (.dat (rowD p.2)) (hrOf ts p) acc s6 (by omega)
    obtain ⟨a, b, c, e⟩ := ih (addH ts acc p) (.vl (.dat (rowD p.1))) (.vl (.dat (rowD p.2))) x6 (fun q hq => hp q (List.mem_cons_of_mem _ hq)) (by unfold addH; omega)
    refine ⟨a, b, c, ?_⟩
    have src : mSeq (mCall F_rooms_of_hour (mCons (mVar 2) (mCons (mVar 4) (mCons (mVar 5) mNil)))) [.vl h, .vl r, .vl (.dat (.list ((ts.map (·.2)).map mkD))), .own (acc.map rmD), .vl (.dat (rowD p.1)), .vl (.dat (rowD p.2)), s6, .no, .no] (0, 0) = some ((hrOf ts p).map rmD, (0, 0)) :=
      seq_eq (call_eq rfl (hr_prog hts ha hb)) rfl
    rw [List.map_cons, List.foldl_cons, forGo_step (ss1 := [.vl h, .vl r, .vl (.dat (.list ((ts.map (·.2)).map mkD))), .own (acc.map rmD), .vl (.dat (rowD p.1)), .vl (.dat (rowD p.2)), s6, .no, .no]) rfl ((for_eq src).trans e1)]
    exact e
theorem rows_zip {ts : List Thing} {rows : List (List Int)} (h : RowsOk ts rows) : ∀ p ∈ rows.zip rows.tail, RowOk ts p.1 ∧ RowOk ts p.2 := fun p hp => ⟨h _ (List.of_mem_zip hp).1, h _ (List.mem_of_mem_tail (List.of_mem_zip hp).2)⟩
def rowsD (rows : List (List Int)) : PyData := .list (rows.map rowD)
/-! ### what the program refuses -/
theorem bodyX_rl {n k : Nat} {m : Sx} {xs : List Vl} {ds : List PyData} {rw : Ro} (hl : xs.length = k) (h : m (slots n xs) (0, 0) = some (.rl ds rw)) : bodyX n k m xs = some (.ok (.dat (.list ds))) := by
  unfold bodyX
  rw [if_pos hl, h]
abbrev badR (k : Nat) : Exn := ⟨2, [(("row" : Str), .int (k : Nat))]⟩
theorem msg_few : ∀ n : Fin 64, (msg_BadRun (FE.ss1 (.int ((n : Nat) : Int))) (0, 0)).isSome = true := by decide +kernel
theorem raise_row {m : Mx Vl} {ss : List Sl} {rw rw1 : Ro} {k : Nat} (h : m ss rw = some (.dat (.int (k : Nat)), rw1)) (hk : k < 64) : FE.sRaise1 2 ("row" : Str) msg_BadRun m ss rw = some (.er (badR k) ss rw1) := by
  unfold FE.sRaise1
  rw [h]
  simp only []
  rw [if_pos ⟨rfl, msg_few ⟨k, hk⟩⟩]
abbrev ckB : Sx := sIf (mTst (m2 neD (m1 lenD (mVar 4)) (mVar 2))) (FE.sRaise1 2 ("row" : Str) msg_BadRun (mVar 3)) sNx
abbrev ckG : PyData → List Sl → Option (List Sl) := gTp 2 (gsCons (gNm 3) (gsCons (gNm 4) gsNil))
/-- the first row that is too long or too short -/
def badAt (n : Nat) : List (List Int) → Nat → Option Nat
  | [], _ => none
  | r :: rows, k => if r.length = n then badAt n rows (k + 1) else some k
theorem check_go {ts : List Thing} (A B : Sl) : ∀ (rows : List (List Int)) (k : Nat) (s3 s4 : Sl) (rw : Ro), k + rows.length ≤ 50 →
    match badAt ts.length rows k with
    | none => ∃ s3' s4', forGo ckG ckB (((rows.map rowD).zipIdx k).map fun p => .tuple [.int (p.2 : Nat), p.1]) [A, B, .vl (.dat (.int (ts.length : Nat))), s3, s4] rw = some (.nx [A, B, .vl (.dat (.int (ts.length : Nat))), s3', s4'] rw)
    | some j => ∃ ss, forGo ckG ckB (((rows.map rowD).zipIdx k).map fun p => .tuple [.int (p.2 : Nat), p.1]) [A, B, .vl (.dat (.int (ts.length : Nat))), s3, s4] rw = some (.er (badR j) ss rw) := by
  intro rows
  induction rows with
  | nil => intro k s3 s4 rw _; exact ⟨s3, s4, rfl⟩
  | cons r rows ih =>
    intro k s3 s4 rw hk
    rw [List.length_cons] at hk
    let S : List Sl := [A, B, .vl (.dat (.int (ts.length : Nat))), .vl (.dat (.int (k : Nat))), .vl (.dat (rowD r))]
    have ln : m1 lenD (mVar 4) S rw = some (.dat (.int (r.length : Nat)), rw) := m1_eq (g := lenD) (m := mVar 4) rfl (by unfold lenD rowD; simp only [List.length_map])
    have tv : mTst (m2 neD (m1 lenD (mVar 4)) (mVar 2)) S rw = some (!decide (r.length = ts.length), rw) := tst_eq (m2_eq (g := neD) (n := mVar 2) ln rfl (ne_len _ _))
    rw [List.map_cons, List.zipIdx_cons, List.map_cons]
    unfold badAt
    by_cases hr : r.length = ts.length
    · rw [if_pos hr]
      rw [decide_eq_true hr] at tv
      have i := ih (k + 1) (.vl (.dat (.int (k : Nat)))) (.vl (.dat (rowD r))) rw (by omega)
      have e := forGo_step (g := ckG) (b := ckB) (x := .tuple [.int (k : Nat), rowD r]) (xs := ((rows.map rowD).zipIdx (k + 1)).map fun p => .tuple [.int (p.2 : Nat), p.1]) (ss := [A, B, .vl (.dat (.int (ts.length : Nat))), s3, s4]) (ss1 := S) (rw := rw) rfl ((ifF tv).trans rfl)
      cases q : badAt ts.length rows (k + 1) with
      | none =>
        rw [q] at i
        obtain ⟨a, b, e2⟩ := i
        exact ⟨a, b, e.trans e2⟩
      | some j =>
        rw [q] at i
        obtain ⟨ss, e2⟩ := i
        exact ⟨ss, e.trans e2⟩
    · rw [if_neg hr]
      rw [decide_eq_false hr] at tv
      exact ⟨S, forGo_er (ss1 := S) rfl ((ifT tv).trans (raise_row (k := k) rfl (by omega)))⟩
theorem lt_two {rows : List (List Int)} {S : List Sl} (h : mVar 1 S (0, 0) = some (.dat (rowsD rows), (0, 0))) : mTst (m2 ltD (m1 lenD (mVar 1)) (mC (.int 2))) S (0, 0) = some (decide (rows.length < 2), (0, 0)) := by
  have ln : m1 lenD (mVar 1) S (0, 0) = some (.dat (.int (rows.length : Nat)), (0, 0)) := m1_eq (g := lenD) (m := mVar 1) h (by unfold lenD rowsD; simp only [List.length_map])
  refine tst_eq (m2_eq (g := ltD) (n := mC (.int 2)) ln rfl ?_)
  unfold ltD i2 ltI
  simp only []
  congr 3
  exact decide_eq_decide.mpr (by omega)
theorem check_few {ts : List Thing} {ties : List Tie} {rows : List (List Int)} (h2 : rows.length < 2) : F_check_run [hsD ts ties, .dat (rowsD rows)] = some (.er (badR rows.length)) := by
  let S0 : List Sl := [.vl (hsD ts ties), .vl (.dat (rowsD rows)), .no, .no, .no]
  have tv := lt_two (rows := rows) (S := S0) rfl
  rw [decide_eq_true h2] at tv
  have ln : m1 lenD (mVar 1) S0 (0, 0) = some (.dat (.int (rows.length : Nat)), (0, 0)) := m1_eq (g := lenD) (m := mVar 1) rfl (by unfold lenD rowsD; simp only [List.length_map])
  exact bodyX_er (rw := (0, 0)) rfl (seq_er ((ifT tv).trans (raise_row ln (by omega))))
theorem check_rows {ts : List Thing} {ties : List Tie} {rows : List (List Int)} (h2 : 2 ≤ rows.length) (hl : rows.length ≤ 50) : F_check_run [hsD ts ties, .dat (rowsD rows)] = some (match badAt ts.length rows 0 with | none => .ok (.dat .none) | some j => .er (badR j)) := by
  have g := check_go (ts := ts) (.vl (hsD ts ties)) (.vl (.dat (rowsD rows))) rows 0 .no .no (0, 0) (by omega)
  let S0 : List Sl := [.vl (hsD ts ties), .vl (.dat (rowsD rows)), .no, .no, .no]
  have tv := lt_two (rows := rows) (S := S0) rfl
  rw [decide_eq_false (by omega)] at tv
  have st2 := set_eq (i := 2) (ss := S0) (rw := (0, 0)) (m1_eq (g := lenD) (m := mList (mHse F_House_things (mVar 0))) (x := .dat (.list (ts.map thD))) rfl (len_list ts)) (by simp [S0])
  cases q : badAt ts.length rows 0 with
  | none =>
    rw [q] at g
    obtain ⟨a, b, e⟩ := g
    exact bodyX_nx (rw := (0, 0)) rfl ((seq_nx ((ifF tv).trans rfl)).trans ((seq_nx st2).trans ((for_eq (xs := ((rows.map rowD).zipIdx 0).map fun p => .tuple [.int (p.2 : Nat), p.1]) (rw1 := (0, 0)) rfl).trans e)))
  | some j =>
    rw [q] at g
    obtain ⟨ss, e⟩ := g
    exact bodyX_er (rw := (0, 0)) rfl ((seq_nx ((ifF tv).trans rfl)).trans ((seq_nx st2).trans ((for_eq (xs := ((rows.map rowD).zipIdx 0).map fun p => .tuple [.int (p.2 : Nat), p.1]) (rw1 := (0, 0)) rfl).trans e)))
theorem bad_none {n : Nat} : ∀ {rows : List (List Int)} {k : Nat}, (∀ r ∈ rows, r.length = n) → badAt n rows k = none
  | [], _, _ => rfl
  | r :: rows, k, h => by
    unfold badAt
    rw [if_pos (h r List.mem_cons_self)]
    exact bad_none fun q hq => h q (List.mem_cons_of_mem _ hq)
theorem check_ok {ts : List Thing} {ties : List Tie} {rows : List (List Int)} (h : RowsOk ts rows) (h2 : 2 ≤ rows.length) (hl : rows.length ≤ 50) : F_check_run [hsD ts ties, .dat (rowsD rows)] = some (.ok (.dat .none)) := by
  rw [check_rows h2 hl, bad_none fun r hr => (h r hr).len]
theorem pas_tail {ts : List Thing} {ties : List Tie} {rows : List (List Int)} (hts : HouseOk ts) (h : RowsOk ts rows) (h2 : 2 ≤ rows.length) (hl : rows.length ≤ 20) : m_passed (slots 9 [hsD ts ties, .dat (rowsD rows)]) (0, 0) = some (.rl ((passB ts rows).map rmD) (0, 0)) := by
  let S0 : List Sl := [.vl (hsD ts ties), .vl (.dat (rowsD rows)), .no, .no, .no, .no, .no, .no, .no]
  have go := lcGo_map (g := gTp 2 (gsCons (gNm 7) (gsCons (gNm 8) gsNil))) (tt := mYes) (te := mVar 8) (ss := S0) (rw := (0, 0)) thD (fun t => mkD t.2) (fun _ => true) ts fun t _ =>
    ⟨[.vl (hsD ts ties), .vl (.dat (rowsD rows)), .no, .no, .no, .no, .no, .vl (.dat (.str t.1)), .vl (.dat (mkD t.2))], rfl, rfl, fun _ => rfl⟩
  rw [List.filter_eq_self.mpr (fun _ _ => rfl)] at go
  have e0 : (ts.map fun t => mkD t.2) = (ts.map (·.2)).map mkD := by rw [List.map_map]; rfl
  rw [e0] at go
  have h3 := hts.l3
  have lc := (lc_eq (vs := [7, 8]) (mi := mSeq (mList (mHse F_House_things (mVar 0)))) (ss := S0) (rw := (0, 0)) (rw1 := (0, 0)) (xs := ts.map thD) rfl rfl (by rw [List.length_map]; omega)).trans go
  have st2 := set_eq (i := 2) (list_eq lc) (by simp [S0])
  have zl : (rows.zip rows.tail).length ≤ 20 := by rw [List.length_zip]; omega
  obtain ⟨a, b, c, e⟩ := pas_go hts (hsD ts ties) (.dat (rowsD rows)) (rows.zip rows.tail) [] .no .no .no (rows_zip h) (by simp only [List.length_nil]; omega)
  rw [← zpr_map] at e
  have sl : slD (.dat (rowsD rows)) (some 1) none = some (.dat (.list (rows.tail.map rowD))) := by
    unfold slD rowsD cutD
    have e1 : HT.sIx (rows.map rowD).length 0 (some 1) = 1 := by
      unfold HT.sIx
      simp only []
      rw [if_neg (by decide), List.length_map]
      omega
    have e2 : HT.sIx (rows.map rowD).length (rows.map rowD).length none = rows.length := by rw [HT.sIx_none, List.length_map]
    simp only [e1, e2]
    rw [← List.map_drop, List.drop_one, List.take_of_length_le (by rw [List.length_map, List.length_tail]; omega)]
  have src : mZ3 (mVar 1) (mSl (mVar 1) (mSome (mC (.int 1))) mNone) [.vl (hsD ts ties), .vl (.dat (rowsD rows)), .vl (.dat (.list ((ts.map (·.2)).map mkD))), .own [], .no, .no, .no, .no, .no] (0, 0) = some (zpD (rows.map rowD) (rows.tail.map rowD), (0, 0)) := by
    have s2 := sl_eq (fa := mVar 1) (fl := mSome (mC (.int 1))) (fh := mNone) (l := some 1) (h := none) (ss := [.vl (hsD ts ties), .vl (.dat (rowsD rows)), .vl (.dat (.list ((ts.map (·.2)).map mkD))), .own [], .no, .no, .no, .no, .no]) (rw := (0, 0)) (rw1 := (0, 0)) (rw2 := (0, 0)) (rw3 := (0, 0)) rfl rfl rfl sl
    unfold mZ3 bnd
    have s1 : mVar 1 [.vl (hsD ts ties), .vl (.dat (rowsD rows)), .vl (.dat (.list ((ts.map (·.2)).map mkD))), .own [], .no, .no, .no, .no, .no] (0, 0) = some (.dat (rowsD rows), (0, 0)) := rfl
    rw [s1]
    simp only []
    rw [s2]
    rfl
  have st1 := dropX_ok (ss := S0) (rw := (0, 0)) (callX_eq (ma := mCons (mVar 0) (mCons (mVar 1) mNil)) rfl (check_ok (ties := ties) h h2 (by omega)))
  exact (seq_nx st1).trans ((seq_nx st2).trans ((seq_nx (ss1 := [.vl (hsD ts ties), .vl (.dat (rowsD rows)), .vl (.dat (.list ((ts.map (·.2)).map mkD))), .own [], .no, .no, .no, .no, .no]) (rw1 := (0, 0)) rfl).trans ((seq_nx ((for_eq src).trans e)).trans rfl)))
theorem passed_val {ts : List Thing} {ties : List Tie} {rows : List (List Int)} (hts : HouseOk ts) (h : RowsOk ts rows) (h2 : 2 ≤ rows.length) (hl : rows.length ≤ 20) : F_passed [hsD ts ties, .dat (rowsD rows)] = some (.ok (.dat (.list ((passB ts rows).map rmD)))) :=
  bodyX_rl (rw := (0, 0)) rfl (pas_tail hts h h2 hl)
theorem passedL_val {ts : List Thing} {ties : List Tie} {rows : List (List Int)} (hts : HouseOk ts) (h : RowsOk ts rows) (h2 : 2 ≤ rows.length) (hl : rows.length ≤ 20) : F_passed_L [hsD ts ties, .dat (rowsD rows)] = some ((passB ts rows).map rmD) :=
  bodyL_rl (rw := (0, 0)) rfl (pas_tail hts h h2 hl)
theorem passed_er {ts : List Thing} {ties : List Tie} {rows : List (List Int)} {x : Exn} (h : F_check_run [hsD ts ties, .dat (rowsD rows)] = some (.er x)) : F_passed [hsD ts ties, .dat (rowsD rows)] = some (.er x) :=
  bodyX_er (rw := (0, 0)) (ss := [.vl (hsD ts ties), .vl (.dat (rowsD rows)), .no, .no, .no, .no, .no, .no, .no]) rfl (seq_er (dropX_er (callX_eq (rw1 := (0, 0)) rfl h)))
end Law
/-! Runs: passed by the law; kept by both. -/
namespace Law
open PySem L2 FL
theorem rows_ix {rows : List (List Int)} {k : Nat} {r : List Int} (h : rows[k]? = some r) : ixD (.dat (rowsD rows)) (.dat (.int (k : Nat))) = some (.dat (rowD r)) := by
  have := atI_mapD rowD h
  unfold ixD rowsD
  simp only [this]
theorem lroom_ix {rs : List (List Spot)} {k : Nat} {r : List Spot} (h : rs[k]? = some r) : ixD (.dat (.list (rs.map rmD))) (.dat (.int (k : Nat))) = some (.dat (rmD r)) := by
  have := atI_mapD rmD h
  unfold ixD
  simp only [this]
theorem or_true {a b : Mx Bool} {ss : List Sl} {rw rw1 : Ro} (h1 : a ss rw = some (true, rw1)) : mOr a b ss rw = some (true, rw1) := by
  unfold mOr bnd
  rw [h1]
  rfl
theorem ixV_last {i : Nat} {ss : List Sl} {rw : Ro} {acc : List (List Spot)} {r : List Spot} (h : ss[i]? = some (.vl (.dat (.list (acc.map rmD))))) (hr : acc.getLast? = some r) : mIxV i (m1 negD (mC (.int 1))) ss rw = some (.dat (rmD r), rw) := by
  have a : atI (acc.map rmD) (-1) = some (rmD r) := atI_last (by rw [List.getLast?_map, hr]; rfl)
  have b : m1 negD (mC (.int 1)) ss rw = some (.dat (.int (-1)), rw) := rfl
  unfold mIxV bnd
  rw [b]
  simp only []
  rw [h]
  simp only [ixD, a]
abbrev lvB : Sx := sIf (mBor 2 (mOr (mTst (m2 eqD (mVar 2) (mList (mLst mNil)))) (mTst (m2 neD (mIxV 2 (m1 negD (mC (.int 1)))) (mVar 4))))) (sApp 2 (mVar 4)) sNx
theorem lhad_go (t r k : Vl) : ∀ (rs acc : List (List Spot)) (s4 : Sl), acc.length + rs.length ≤ 1000 →
    ∃ s4', forGo (gNm 4) lvB (rs.map rmD) [.vl t, .vl r, .own (acc.map rmD), .vl k, s4] (0, 0) = some (.nx [.vl t, .vl r, .own ((rs.foldl addR acc).map rmD), .vl k, s4'] (0, 0)) := by
  intro rs
  induction rs with
  | nil => intro acc s4 _; exact ⟨s4, rfl⟩
  | cons o rs ih =>
    intro acc s4 hl
    rw [List.length_cons] at hl
    have al := addR_len acc o
    obtain ⟨a, e⟩ := ih (addR acc o) (.vl (.dat (rmD o))) (by omega)
    refine ⟨a, ?_⟩
    let S : List Sl := [.vl t, .vl r, .own (acc.map rmD), .vl k, .vl (.dat (rmD o))]
    let S' : List Sl := [.vl t, .vl r, .vl (.dat (.list (acc.map rmD))), .vl k, .vl (.dat (rmD o))]
    have ta : mTst (m2 eqD (mVar 2) (mList (mLst mNil))) S' (0, 0) = some (decide (acc = []), (0, 0)) := tst_eq (m2_eq (g := eqD) (m := mVar 2) (n := mList (mLst mNil)) (y := .dat (.list (([] : List (List Spot)).map rmD))) rfl rfl (eq_lroomsD _ _))
    have t0 : mOr (mTst (m2 eqD (mVar 2) (mList (mLst mNil)))) (mTst (m2 neD (mIxV 2 (m1 negD (mC (.int 1)))) (mVar 4))) S' (0, 0) = some (!decide (acc.getLast? = some o), (0, 0)) := by
      by_cases z : acc = []
      · rw [decide_eq_true z] at ta
        rw [or_true ta, z]
        rfl
      · rw [decide_eq_false z] at ta
        obtain ⟨l, hl⟩ : ∃ l, acc.getLast? = some l := by
          cases q : acc.getLast? with
          | none => exact absurd (List.getLast?_eq_none_iff.mp q) z
          | some l => exact ⟨l, rfl⟩
        refine or_false ta ?_
        rw [hl]
        have e1 : (some l = some o) ↔ l = o := by simp
        rw [decide_eq_decide.mpr e1]
        exact tst_eq (m2_eq (g := neD) (n := mVar 4) (ixV_last (i := 2) (acc := acc) rfl hl) rfl (ne_rooms l o))
    have t1 : mBor 2 (mOr (mTst (m2 eqD (mVar 2) (mList (mLst mNil)))) (mTst (m2 neD (mIxV 2 (m1 negD (mC (.int 1)))) (mVar 4)))) S (0, 0) = some (!decide (acc.getLast? = some o), (0, 0)) := bor_eq (rw1 := (0, 0)) t0
    have st : lvB S (0, 0) = some (.nx [.vl t, .vl r, .own ((addR acc o).map rmD), .vl k, .vl (.dat (rmD o))] (0, 0)) := by
      unfold addR
      by_cases z : acc.getLast? = some o
      · rw [if_pos z]
        rw [decide_eq_true z] at t1
        exact (ifF t1).trans rfl
      · rw [if_neg z]
        rw [decide_eq_false z] at t1
        have e9 : (acc ++ [o]).map rmD = acc.map rmD ++ [rmD o] := by rw [List.map_append]; rfl
        rw [e9]
        exact (ifT t1).trans (app_eq (i := 2) (ds := acc.map rmD) (d := rmD o) (ss := S) rfl rfl (by rw [List.length_map]; omega))
    rw [List.map_cons, List.foldl_cons, forGo_step (ss1 := S) rfl st]
    exact e
abbrev lpB : Sx := sFor (mSeq (mCall F__law_hour_of (mCons (mVar 0) (mCons (m2 ixD (mVar 1) (m2 subD (mVar 3) (mC (.int 1)))) (mCons (m2 ixD (mVar 1) (mVar 3)) mNil))))) (gNm 4) lvB
theorem lpas_go {ts : List Thing} (hts : HouseOk ts) {rows : List (List Int)} (h : RowsOk ts rows) (n : Nat) : ∀ (k : Nat) (acc : List (List Spot)) (s3 s4 : Sl), k + 1 + n = rows.length → acc.length + n * 10 ≤ 1000 →
    ∃ s3' s4', forGo (gNm 3) lpB ((List.range' (k + 1) n).map fun i => .int (i : Nat)) [.vl (.dat (thsD ts)), .vl (.dat (rowsD rows)), .own (acc.map rmD), s3, s4] (0, 0) =
      some (.nx [.vl (.dat (thsD ts)), .vl (.dat (rowsD rows)), .own ((((rows.drop k).zip (rows.drop k).tail).foldl (addH ts) acc).map rmD), s3', s4'] (0, 0)) := by
  induction n with
  | zero =>
    intro k acc s3 s4 hk _
    refine ⟨s3, s4, ?_⟩
    obtain ⟨u, hu⟩ : ∃ u, rows.drop k = [u] := by
      have l1 : (rows.drop k).length = 1 := by rw [List.length_drop]; omega
      exact List.length_eq_one_iff.mp l1
    rw [hu]
    rfl
  | succ n ih =>
    intro k acc s3 s4 hk hl
    obtain ⟨u, hu⟩ : ∃ u, rows[k]? = some u := ⟨_, List.getElem?_eq_getElem (by omega)⟩
    obtain ⟨v, hv⟩ : ∃ v, rows[k + 1]? = some v := ⟨_, List.getElem?_eq_getElem (by omega)⟩
    have hd0 : rows.drop k = u :: rows.drop (k + 1) := by
      have hk' := List.getElem?_eq_some_iff.mp hu
      rw [List.drop_eq_getElem_cons hk'.1, hk'.2]
    have hd1 : rows.drop (k + 1) = v :: rows.drop (k + 2) := by
      have hk' := List.getElem?_eq_some_iff.mp hv
      rw [List.drop_eq_getElem_cons hk'.1, hk'.2]
    have ha := h u (List.mem_of_getElem? hu)
    have hb := h v (List.mem_of_getElem? hv)
    have hlen := hr_len hts ha hb
    have al := addAll_len (hrOf ts (u, v)) acc
    let S : List Sl := [.vl (.dat (thsD ts)), .vl (.dat (rowsD rows)), .own (acc.map rmD), .vl (.dat (.int ((k + 1 : Nat) : Int))), s4]
    have kk : m2 subD (mVar 3) (mC (.int 1)) S (0, 0) = some (.dat (.int (k : Nat)), (0, 0)) := m2_eq (g := subD) (m := mVar 3) (n := mC (.int 1)) rfl rfl (by unfold subD i2 subI; simp only []; congr 3; omega)
    have src : mSeq (mCall F__law_hour_of (mCons (mVar 0) (mCons (m2 ixD (mVar 1) (m2 subD (mVar 3) (mC (.int 1)))) (mCons (m2 ixD (mVar 1) (mVar 3)) mNil)))) S (0, 0) = some ((hrOf ts (u, v)).map rmD, (0, 0)) :=
      seq_eq (call_eq (cons_eq (m := mVar 0) rfl (cons_eq (m2_eq (g := ixD) (m := mVar 1) rfl kk (rows_ix hu)) (cons_eq (m2_eq (g := ixD) (m := mVar 1) (n := mVar 3) rfl rfl (rows_ix hv)) nil_eq))) (hr_law hts ha hb)) rfl
    obtain ⟨x4, e1⟩ := lhad_go (.dat (thsD ts)) (.dat (rowsD rows)) (.dat (.int ((k + 1 : Nat) : Int))) (hrOf ts (u, v)) acc s4 (by omega)
    obtain ⟨a, b, e⟩ := ih (k + 1) (addH ts acc (u, v)) (.vl (.dat (.int ((k + 1 : Nat) : Int)))) x4 (by omega) (by unfold addH; omega)
    refine ⟨a, b, ?_⟩
    rw [List.range'_succ, List.map_cons, forGo_step (ss1 := S) rfl ((for_eq src).trans e1)]
    have e8 : ((rows.drop k).zip (rows.drop k).tail).foldl (addH ts) acc = ((rows.drop (k + 1)).zip (rows.drop (k + 1)).tail).foldl (addH ts) (addH ts acc (u, v)) := by
      rw [hd0, hd1, List.tail_cons, List.zip_cons_cons, List.foldl_cons]
      rfl
    rw [e8]
    exact e
theorem lpassed_val {ts : List Thing} {rows : List (List Int)} (hts : HouseOk ts) (h : RowsOk ts rows) (h2 : 2 ≤ rows.length) (hl : rows.length ≤ 20) : F__law_passed [.dat (thsD ts), .dat (rowsD rows)] = some (.dat (.list ((passB ts rows).map rmD))) := by
  obtain ⟨a, b, e⟩ := lpas_go hts h (rows.length - 1) 0 [] .no .no (by omega) (by simp only [List.length_nil]; omega)
  rw [List.drop_zero] at e
  have src : mRg2 (mC (.int 1)) (m1 lenD (mVar 1)) [.vl (.dat (thsD ts)), .vl (.dat (rowsD rows)), .own [], .no, .no] (0, 0) = some ((List.range' 1 (rows.length - 1)).map fun i => .int (i : Nat), (0, 0)) := by
    have ln : m1 lenD (mVar 1) [.vl (.dat (thsD ts)), .vl (.dat (rowsD rows)), .own [], .no, .no] (0, 0) = some (.dat (.int (rows.length : Nat)), (0, 0)) := m1_eq (g := lenD) (m := mVar 1) rfl (by unfold lenD rowsD; simp only [List.length_map])
    rw [rg2_eq (i := 1) rfl ln (by omega), rg_from1 (by omega)]
  exact bodyP_rl (rw := (0, 0)) rfl ((seq_nx (ss1 := [.vl (.dat (thsD ts)), .vl (.dat (rowsD rows)), .own [], .no, .no]) (rw1 := (0, 0)) rfl).trans ((seq_nx ((for_eq src).trans e)).trans rfl))
theorem passB_len {ts : List Thing} {rows : List (List Int)} (hts : HouseOk ts) (h : RowsOk ts rows) (hl : rows.length ≤ 20) : (passB ts rows).length ≤ 200 := by
  have g : ∀ (ps : List (List Int × List Int)) (acc : List (List Spot)), (∀ p ∈ ps, RowOk ts p.1 ∧ RowOk ts p.2) → (ps.foldl (addH ts) acc).length ≤ acc.length + ps.length * 10 := by
    intro ps
    induction ps with
    | nil => intro acc _; simp
    | cons p ps ih =>
      intro acc hp
      obtain ⟨ha, hb⟩ := hp p List.mem_cons_self
      have hlen : (hrOf ts p).length ≤ 10 := hr_len hts ha hb
      have al := addAll_len (hrOf ts p) acc
      have := ih (addH ts acc p) fun q hq => hp q (List.mem_cons_of_mem _ hq)
      rw [List.foldl_cons, List.length_cons]
      unfold addH at this ⊢
      omega
  have z := g (rows.zip rows.tail) [] (rows_zip h)
  have zl : (rows.zip rows.tail).length ≤ 20 := by rw [List.length_zip]; omega
  unfold passB
  simp only [List.length_nil] at z
  omega
theorem addR_mem {acc : List (List Spot)} {o r : List Spot} (h : r ∈ addR acc o) : r ∈ acc ∨ r = o := by
  unfold addR at h
  split at h
  · exact .inl h
  · simpa using h
theorem addAll_mem : ∀ {rs acc : List (List Spot)} {r : List Spot}, r ∈ rs.foldl addR acc → r ∈ acc ∨ r ∈ rs
  | [], _, _, h => .inl h
  | o :: rs, acc, r, h => by
    rcases addAll_mem (rs := rs) h with h | h
    · rcases addR_mem h with h | rfl
      · exact .inl h
      · exact .inr List.mem_cons_self
    · exact .inr (List.mem_cons_of_mem _ h)
theorem passB_mem {ts : List Thing} {rows : List (List Int)} {r : List Spot} (h : r ∈ passB ts rows) : ∃ p ∈ rows.zip rows.tail, r ∈ hrOf ts p := by
  have g : ∀ (ps : List (List Int × List Int)) (acc : List (List Spot)), r ∈ ps.foldl (addH ts) acc → r ∈ acc ∨ ∃ p ∈ ps, r ∈ hrOf ts p := by
    intro ps
    induction ps with
    | nil => intro acc h; exact .inl h
    | cons p ps ih =>
      intro acc h
      rcases ih (addH ts acc p) h with h | ⟨q, hq, hr⟩
      · rcases addAll_mem h with h | h
        · exact .inl h
        · exact .inr ⟨p, List.mem_cons_self, h⟩
      · exact .inr ⟨q, List.mem_cons_of_mem _ hq, hr⟩
  rcases g _ [] h with h | h
  · cases h
  · exact h
theorem pass_ok {ts : List Thing} {rows : List (List Int)} (hts : HouseOk ts) (h : RowsOk ts rows) : ∀ r ∈ passB ts rows, RoomOk ts.length r := fun r hr => by
  obtain ⟨p, hp, hm⟩ := passB_mem hr
  obtain ⟨ha, hb⟩ := rows_zip h p hp
  exact hr_ok hts ha hb r hm
/-! ### kept -/
def firstK (ties : List Tie) : List (List Spot) → Nat → Option (Nat × Nat)
  | [], _ => none
  | r :: rs, k => match firstB r ties 0 with
    | none => firstK ties rs (k + 1)
    | some i => some (k, i)
def optK : Option (Nat × Nat) → PyData
  | none => .none
  | some p => .tuple [.int (p.1 : Nat), .int (p.2 : Nat)]
abbrev kpG : PyData → List Sl → Option (List Sl) := gTp 2 (gsCons (gNm 3) (gsCons (gNm 4) gsNil))
abbrev kpB : Sx := sSeq (sSet 5 (mCall F_first_broken (mCons (mVar 2) (mCons (mVar 4) mNil)))) (sIf (mTst (m2 notND (mVar 5) (mC .none))) (sRet (mTup (mCons (mVar 3) (mCons (mVar 5) mNil)))) sNx)
theorem kept_go {ts : List Thing} {ties : List Tie} (ht : ∀ t ∈ ties, TieOk ts t) (A B : Sl) : ∀ (rs : List (List Spot)) (k : Nat) (s3 s4 s5 : Sl) (rw : Ro), (∀ r ∈ rs, RoomOk ts.length r) →
    match firstK ties rs k with
    | none => ∃ s3' s4' s5', forGo kpG kpB (((rs.map rmD).zipIdx k).map fun p => .tuple [.int (p.2 : Nat), p.1]) [A, B, .vl (.dat (tisD ties)), s3, s4, s5] rw = some (.nx [A, B, .vl (.dat (tisD ties)), s3', s4', s5'] rw)
    | some p => forGo kpG kpB (((rs.map rmD).zipIdx k).map fun p => .tuple [.int (p.2 : Nat), p.1]) [A, B, .vl (.dat (tisD ties)), s3, s4, s5] rw = some (.rt (.dat (optK (some p))) rw) := by
  intro rs
  induction rs with
  | nil => intro k s3 s4 s5 rw _; exact ⟨s3, s4, s5, rfl⟩
  | cons r rs ih =>
    intro k s3 s4 s5 rw h
    have fv := first_val (h r List.mem_cons_self) ht
    let S : List Sl := [A, B, .vl (.dat (tisD ties)), .vl (.dat (.int (k : Nat))), .vl (.dat (rmD r)), s5]
    have st := set_eq (i := 5) (ss := S) (rw := rw) (call_eq (ma := mCons (mVar 2) (mCons (mVar 4) mNil)) rfl fv) (by simp [S])
    unfold firstK
    rw [List.map_cons, List.zipIdx_cons, List.map_cons]
    cases q : firstB r ties 0 with
    | none =>
      rw [q] at st
      have i := ih (k + 1) (.vl (.dat (.int (k : Nat)))) (.vl (.dat (rmD r))) (.vl (.dat .none)) rw fun o ho => h o (List.mem_cons_of_mem _ ho)
      have e := forGo_step (g := kpG) (b := kpB) (x := .tuple [.int (k : Nat), rmD r]) (xs := ((rs.map rmD).zipIdx (k + 1)).map fun p => .tuple [.int (p.2 : Nat), p.1]) (ss := [A, B, .vl (.dat (tisD ties)), s3, s4, s5]) (ss1 := S) (rw := rw) rfl ((seq_nx st).trans ((ifF (rw1 := rw) rfl).trans rfl))
      simp only []
      cases q2 : firstK ties rs (k + 1) with
      | none =>
        rw [q2] at i
        obtain ⟨a, b, c, e2⟩ := i
        exact ⟨a, b, c, e.trans e2⟩
      | some p =>
        rw [q2] at i
        exact e.trans i
    | some n =>
      rw [q] at st
      exact forGo_ret (ss1 := S) rfl ((seq_nx st).trans ((ifT (rw1 := rw) rfl).trans (ret_eq (tup_eq (ds := [.int (k : Nat), .int (n : Nat)]) rfl rfl (show (2 : Nat) ≤ 100000 by decide)))))
theorem forE_ok {mx : Mx Res} {g : PyData → List Sl → Option (List Sl)} {b : Sx} {ss : List Sl} {rw rw1 : Ro} {ds : List PyData} (h : mx ss rw = some (.ok (.dat (.list ds)), rw1)) : sForE mx g b ss rw = forGo g b ((ds.zipIdx 0).map fun p => .tuple [.int (p.2 : Nat), p.1]) ss rw1 := by
  unfold sForE
  rw [h]
theorem forE_er {mx : Mx Res} {g : PyData → List Sl → Option (List Sl)} {b : Sx} {ss : List Sl} {rw rw1 : Ro} {x : Exn} (h : mx ss rw = some (.er x, rw1)) : sForE mx g b ss rw = some (.er x ss rw1) := by
  unfold sForE
  rw [h]
theorem kept_val {ts : List Thing} {ties : List Tie} {rows : List (List Int)} (hts : HouseOk ts) (ht : ∀ t ∈ ties, TieOk ts t) (h : RowsOk ts rows) (h2 : 2 ≤ rows.length) (hl : rows.length ≤ 20) : F_kept [hsD ts ties, .dat (rowsD rows)] = some (.ok (.dat (optK (firstK ties (passB ts rows) 0)))) := by
  have pv := passed_val (ties := ties) hts h h2 hl
  have g := kept_go ht (.vl (hsD ts ties)) (.vl (.dat (rowsD rows))) (passB ts rows) 0 .no .no .no (0, 0) (pass_ok hts h)
  have src : mCallX F_passed (mCons (mVar 0) (mCons (mVar 1) mNil)) [.vl (hsD ts ties), .vl (.dat (rowsD rows)), .vl (.dat (tisD ties)), .no, .no, .no] (0, 0) = some (.ok (.dat (.list ((passB ts rows).map rmD))), (0, 0)) := callX_eq rfl pv
  have st : sSet 2 (mList (mHse F_House_ties (mVar 0))) [.vl (hsD ts ties), .vl (.dat (rowsD rows)), .no, .no, .no, .no] (0, 0) = some (.nx [.vl (hsD ts ties), .vl (.dat (rowsD rows)), .vl (.dat (tisD ties)), .no, .no, .no] (0, 0)) := rfl
  cases q : firstK ties (passB ts rows) 0 with
  | none =>
    rw [q] at g
    obtain ⟨a, b, c, e⟩ := g
    exact bodyX_rt (rw := (0, 0)) rfl ((seq_nx st).trans ((seq_nx ((forE_ok src).trans e)).trans rfl))
  | some p =>
    rw [q] at g
    exact bodyX_rt (rw := (0, 0)) rfl ((seq_nx st).trans (seq_rt ((forE_ok src).trans g)))
theorem kept_er {ts : List Thing} {ties : List Tie} {rows : List (List Int)} {x : Exn} (h : F_check_run [hsD ts ties, .dat (rowsD rows)] = some (.er x)) : F_kept [hsD ts ties, .dat (rowsD rows)] = some (.er x) := by
  have st : sSet 2 (mList (mHse F_House_ties (mVar 0))) [.vl (hsD ts ties), .vl (.dat (rowsD rows)), .no, .no, .no, .no] (0, 0) = some (.nx [.vl (hsD ts ties), .vl (.dat (rowsD rows)), .vl (.dat (tisD ties)), .no, .no, .no] (0, 0)) := rfl
  exact bodyX_er (rw := (0, 0)) rfl ((seq_nx st).trans (seq_er (forE_er (callX_eq (ma := mCons (mVar 0) (mCons (mVar 1) mNil)) rfl (passed_er h)))))
abbrev lkpB : Sx := sSeq (sSet 3 (mCall F__law_first (mCons (mVar 0) (mCons (m2 ixD (mVar 1) (mVar 2)) mNil)))) (sIf (mTst (m2 notND (mVar 3) (mC .none))) (sRet (mTup (mCons (mVar 2) (mCons (mVar 3) mNil)))) sNx)
theorem lkept_go {ts : List Thing} {ties : List Tie} (ht : ∀ t ∈ ties, TieOk ts t) (hl : ties.length ≤ 1000) (all : List (List Spot)) : ∀ (rs : List (List Spot)) (k : Nat) (s2 s3 : Sl) (rw : Ro), (∀ r ∈ rs, RoomOk ts.length r) → all.drop k = rs →
    match firstK ties rs k with
    | none => ∃ s2' s3', forGo (gNm 2) lkpB ((List.range' k rs.length).map fun i => .int (i : Nat)) [.vl (.dat (tisD ties)), .vl (.dat (.list (all.map rmD))), s2, s3] rw = some (.nx [.vl (.dat (tisD ties)), .vl (.dat (.list (all.map rmD))), s2', s3'] rw)
    | some p => forGo (gNm 2) lkpB ((List.range' k rs.length).map fun i => .int (i : Nat)) [.vl (.dat (tisD ties)), .vl (.dat (.list (all.map rmD))), s2, s3] rw = some (.rt (.dat (optK (some p))) rw) := by
  intro rs
  induction rs with
  | nil => intro k s2 s3 rw _ _; exact ⟨s2, s3, rfl⟩
  | cons r rs ih =>
    intro k s2 s3 rw h hd
    have fv := lfirst_val (h r List.mem_cons_self) ht hl
    have at_ : all[k]? = some r := by
      have := congrArg (·[0]?) hd
      simpa using this
    let S : List Sl := [.vl (.dat (tisD ties)), .vl (.dat (.list (all.map rmD))), .vl (.dat (.int (k : Nat))), s3]
    have st := set_eq (i := 3) (ss := S) (rw := rw) (call_eq (ma := mCons (mVar 0) (mCons (m2 ixD (mVar 1) (mVar 2)) mNil)) (cons_eq (m := mVar 0) rfl (cons_eq (m2_eq (g := ixD) (m := mVar 1) (n := mVar 2) rfl rfl (lroom_ix at_)) nil_eq)) fv) (by simp [S])
    unfold firstK
    rw [List.length_cons, List.range'_succ, List.map_cons]
    cases q : firstB r ties 0 with
    | none =>
      rw [q] at st
      have i := ih (k + 1) (.vl (.dat (.int (k : Nat)))) (.vl (.dat .none)) rw (fun o ho => h o (List.mem_cons_of_mem _ ho)) (by
        have := congrArg (List.drop 1) hd
        simpa [List.drop_drop, Nat.add_comm] using this)
      have e := forGo_step (g := gNm 2) (b := lkpB) (x := .int (k : Nat)) (xs := (List.range' (k + 1) rs.length).map fun i => .int (i : Nat)) (ss := [.vl (.dat (tisD ties)), .vl (.dat (.list (all.map rmD))), s2, s3]) (ss1 := S) (rw := rw) rfl ((seq_nx st).trans ((ifF (rw1 := rw) rfl).trans rfl))
      simp only []
      cases q2 : firstK ties rs (k + 1) with
      | none =>
        rw [q2] at i
        obtain ⟨a, b, e2⟩ := i
        exact ⟨a, b, e.trans e2⟩
      | some p =>
        rw [q2] at i
        exact e.trans i
    | some n =>
      rw [q] at st
      exact forGo_ret (ss1 := S) rfl ((seq_nx st).trans ((ifT (rw1 := rw) rfl).trans (ret_eq (tup_eq (ds := [.int (k : Nat), .int (n : Nat)]) rfl rfl (show (2 : Nat) ≤ 100000 by decide)))))
theorem rg_rooms {rs : List (List Spot)} {ss : List Sl} {rw : Ro} (h : ss[1]? = some (.vl (.dat (.list (rs.map rmD))))) (hl : rs.length ≤ 1000) : mRg1 (m1 lenD (mVar 1)) ss rw = some ((List.range' 0 rs.length).map fun i => .int (i : Nat), rw) := by
  have mv : mVar 1 ss rw = some (.dat (.list (rs.map rmD)), rw) := by unfold mVar; rw [h]
  have h2 : (-1000000 : Int) ≤ (rs.length : Int) ∧ (rs.length : Int) ≤ 1000000 := by omega
  unfold mRg1 bnd
  rw [m1_eq (g := lenD) mv (len_rooms rs)]
  simp [opt, h2, rgD_map, List.range_eq_range']
theorem lkept_val {ts : List Thing} {ties : List Tie} {rs : List (List Spot)} (ht : ∀ t ∈ ties, TieOk ts t) (hl : ties.length ≤ 1000) (h : ∀ r ∈ rs, RoomOk ts.length r) (h1 : rs.length ≤ 1000) : F__law_kept [.dat (tisD ties), .dat (.list (rs.map rmD))] = some (.dat (optK (firstK ties rs 0))) := by
  have g := lkept_go ht hl rs rs 0 .no .no (0, 0) h rfl
  have src := rg_rooms (rs := rs) (ss := [.vl (.dat (tisD ties)), .vl (.dat (.list (rs.map rmD))), .no, .no]) (rw := (0, 0)) rfl h1
  cases q : firstK ties rs 0 with
  | none =>
    rw [q] at g
    obtain ⟨a, b, e⟩ := g
    exact bodyP_rt (rw := (0, 0)) rfl ((seq_nx ((for_eq src).trans e)).trans rfl)
  | some p =>
    rw [q] at g
    exact bodyP_rt (rw := (0, 0)) rfl (seq_rt ((for_eq src).trans g))
theorem alike_optK (n : Nat) (o : Option (Nat × Nat)) : F__law_alike (n + 2) [.dat (optK o), .dat (optK o)] = some (.dat (.bool true)) := by
  cases o with
  | none => exact alike_none (n + 1)
  | some p =>
    refine alike_seq (n + 1) .tuple (.inl rfl) (show (2 : Nat) ≤ 100000 by decide) fun d hd => ?_
    rcases List.mem_cons.mp hd with rfl | hd
    · exact alike_int n _
    · rcases List.mem_cons.mp hd with rfl | hd
      · exact alike_int n _
      · cases hd
end Law
/-! Runs: the rows that the law draws. -/
namespace Law
open PySem L2 FL
structure RowB (ts : List Thing) (n : Int) (r : List Int) : Prop where
  len : r.length = ts.length
  bd : ∀ x ∈ r, -n ≤ x ∧ x ≤ n
theorem RowB.ok {ts : List Thing} {n : Int} {r : List Int} (h : RowB ts n r) (hn : n ≤ 100000) : RowOk ts r := ⟨h.len, fun x hx => by
  have := h.bd x hx
  unfold Small
  omega⟩
theorem RowB.mono {ts : List Thing} {n m : Int} {r : List Int} (h : RowB ts n r) (hn : n ≤ m) : RowB ts m r := ⟨h.len, fun x hx => by
  have := h.bd x hx
  omega⟩
theorem lst_eq {ma : Mx (List Vl)} {ss : List Sl} {rw rw1 : Ro} {xs : List Vl} {ds : List PyData} (h : ma ss rw = some (xs, rw1)) (h2 : dats xs = some ds) (h3 : ds.length ≤ 100000) : mLst ma ss rw = some (ds, rw1) := by
  unfold mLst bnd
  rw [h]
  simp only [opt, h2]
  rw [if_pos h3]
theorem or_eq {a b : Mx Bool} {ss : List Sl} {rw rw1 : Ro} {x y : Bool} (h1 : a ss rw = some (x, rw1)) (h2 : b ss rw1 = some (y, rw1)) : mOr a b ss rw = some (x || y, rw1) := by
  cases x with
  | true => rw [or_true h1]; rfl
  | false => rw [or_false h1 h2]; rfl
/-- a list of draws -/
theorem draws_go (ns : List Int) {w : Int} (hw : 0 < w) {S : List Sl} {i j : Nat} (hg : ∀ d, ∃ S1, gNm i d S = some S1 ∧ S1[0]? = some .row ∧ mVar j S1 = fun rw => some (.dat (.int w), rw)) : ∀ (xs : List PyData) (rw : Ro), 0 ≤ rw.1 →
    ∃ (ss : List Int) (rw' : Ro), lcGo (gNm i) mYes (m2 addD (mC (.int 1)) (mCallR 0 (F__law_taken ns) (mCons (mVar j) mNil))) S xs rw = some (ss.map .int, rw') ∧ ss.length = xs.length ∧ (∀ s ∈ ss, 1 ≤ s ∧ s ≤ w) ∧ 0 ≤ rw'.1
  | [], rw, h => ⟨[], rw, rfl, rfl, (fun s hs => by cases hs), h⟩
  | x :: xs, rw, h => by
    obtain ⟨S1, g1, g2, g3⟩ := hg x
    have ma : mCons (mVar j) mNil S1 rw = some ([.dat (.int w)], rw) := cons_eq (by rw [g3]) nil_eq
    obtain ⟨v, rw1, e1, v0, v1, r1⟩ := draw (ns := ns) (i := 0) g2 ma hw h
    obtain ⟨ss, rw2, e2, l2, b2, r2⟩ := draws_go ns hw hg xs rw1 r1
    have te := m2_eq (g := addD) (m := mC (.int 1)) (ss := S1) (rw := rw) rfl e1 (z := .dat (.int (1 + v))) rfl
    refine ⟨(1 + v) :: ss, rw2, ?_, by simp [l2], fun s hs => ?_, r2⟩
    · unfold lcGo
      rw [g1]
      simp only [show mYes S1 rw = some (true, rw) from rfl, te, e2]
      rfl
    · rcases List.mem_cons.mp hs with rfl | hs
      · omega
      · exact b2 s hs
theorem pick3 {v a b c : Int} (h0 : 0 ≤ v) (h1 : v < 3) : ∃ w, ixD (.dat (.list [.int a, .int b, .int c])) (.dat (.int v)) = some (.dat (.int w)) ∧ (w = a ∨ w = b ∨ w = c) := by
  have : v = 0 ∨ v = 1 ∨ v = 2 := by omega
  rcases this with rfl | rfl | rfl
  · exact ⟨a, rfl, .inl rfl⟩
  · exact ⟨b, rfl, .inr (.inl rfl)⟩
  · exact ⟨c, rfl, .inr (.inr rfl)⟩
def trends (w : Int) : List Int := [w / 9 - 1, w / 3 % 3 - 1, w % 3 - 1]
def endOf (a steps : List Int) (w : Int) : List Int := (List.range a.length).map fun j => a.getD j 0 + (trends w).getD j 0 * steps.getD j 0
theorem end_ok {ts : List Thing} {n W : Int} {a steps : List Int} (h3 : ts.length ≤ 3) (ha : RowB ts n a) (hs : steps.length = a.length) (hw : W ≤ 40) (hb : ∀ s ∈ steps, 1 ≤ s ∧ s ≤ W) {w : Int} (w0 : 0 ≤ w) (w1 : w < 27) : RowB ts (n + 40) (endOf a steps w) := by
  unfold endOf
  refine ⟨by rw [List.length_map, List.length_range]; exact ha.len, fun x hx => ?_⟩
  obtain ⟨j, hj, rfl⟩ := List.mem_map.mp hx
  rw [List.mem_range] at hj
  have aj : a[j]? = some a[j] := List.getElem?_eq_getElem hj
  have sj : steps[j]? = some (steps[j]'(by omega)) := List.getElem?_eq_getElem (by omega)
  rw [List.getD_eq_getElem?_getD, List.getD_eq_getElem?_getD, List.getD_eq_getElem?_getD, aj, sj]
  have b1 := ha.bd _ (List.mem_of_getElem? aj)
  have b2 := hb _ (List.mem_of_getElem? sj)
  simp only [Option.getD_some]
  generalize a[j] = A at b1
  generalize steps[j]'(by omega) = B at b2
  have hj3 : j < 3 := by have := ha.len; omega
  have ht : (trends w)[j]?.getD 0 = -1 ∨ (trends w)[j]?.getD 0 = 0 ∨ (trends w)[j]?.getD 0 = 1 := by
    have : j = 0 ∨ j = 1 ∨ j = 2 := by omega
    rcases this with rfl | rfl | rfl
    · show w / 9 - 1 = -1 ∨ w / 9 - 1 = 0 ∨ w / 9 - 1 = 1; omega
    · show w / 3 % 3 - 1 = -1 ∨ w / 3 % 3 - 1 = 0 ∨ w / 3 % 3 - 1 = 1; omega
    · show w % 3 - 1 = -1 ∨ w % 3 - 1 = 0 ∨ w % 3 - 1 = 1; omega
  rcases ht with t | t | t <;> rw [t] <;> omega
theorem len_row (r : List Int) : lenD (.dat (rowD r)) = some (.dat (.int (r.length : Nat))) := by
  unfold lenD rowD
  simp only [List.length_map]
theorem ends_lc {a steps : List Int} (A B C D E F G H I J : Sl) (w : Int) (hs : steps.length = a.length) (h3 : a.length ≤ 3) (hst : ∀ s ∈ steps, s.natAbs < 1000) {S : List Sl} (hS : S = [A, B, C, .vl (.dat (rowD a)), D, .vl (.dat (.list (steps.map .int))), E, F, G, H, I, .vl (.dat (.list ((trends w).map .int))), J, .no, .no, .no]) (hno : noOwn S [14] = true) (rw : Ro) :
    mLc [14] (mRg1 (m1 lenD (mVar 3))) (gNm 14) mYes (m2 addD (m2 ixD (mVar 3) (mVar 14)) (m2 mulD (m2 ixD (mVar 11) (mVar 14)) (m2 ixD (mVar 5) (mVar 14)))) S rw = some ((endOf a steps w).map .int, rw) := by
  have go := lcGo_map (g := gNm 14) (tt := mYes) (te := m2 addD (m2 ixD (mVar 3) (mVar 14)) (m2 mulD (m2 ixD (mVar 11) (mVar 14)) (m2 ixD (mVar 5) (mVar 14)))) (ss := S) (rw := rw) (fun i : Nat => .int i) (fun j : Nat => .int (a.getD j 0 + (trends w).getD j 0 * steps.getD j 0)) (fun _ => true) (List.range a.length) fun j hj => by
    rw [List.mem_range] at hj
    have aj : a[j]? = some a[j] := List.getElem?_eq_getElem hj
    have sj : steps[j]? = some (steps[j]'(by omega)) := List.getElem?_eq_getElem (by omega)
    have tj : (trends w)[j]? = some ((trends w)[j]'(by show j < 3; omega)) := List.getElem?_eq_getElem (by show j < 3; omega)
    have sb := hst _ (List.mem_of_getElem? sj)
    refine ⟨[A, B, C, .vl (.dat (rowD a)), D, .vl (.dat (.list (steps.map .int))), E, F, G, H, I, .vl (.dat (.list ((trends w).map .int))), J, .no, .vl (.dat (.int (j : Nat))), .no], by rw [hS]; rfl, rfl, fun _ => ?_⟩
    rw [List.getD_eq_getElem?_getD, List.getD_eq_getElem?_getD, List.getD_eq_getElem?_getD, aj, sj, tj]
    exact m2_eq (g := addD) (m2_eq (g := ixD) (m := mVar 3) (n := mVar 14) rfl rfl (row_ix aj)) (m2_eq (g := mulD) (m2_eq (g := ixD) (m := mVar 11) (n := mVar 14) rfl rfl (list_ix tj)) (m2_eq (g := ixD) (m := mVar 5) (n := mVar 14) rfl rfl (list_ix sj)) (mul_r (by omega))) rfl
  rw [List.filter_eq_self.mpr (fun _ _ => rfl)] at go
  have src : mRg1 (m1 lenD (mVar 3)) S rw = some ((List.range a.length).map fun i => .int (i : Nat), rw) := by
    have mv : mVar 3 S rw = some (.dat (rowD a), rw) := by rw [hS]; rfl
    have h2 : (-1000000 : Int) ≤ (a.length : Int) ∧ (a.length : Int) ≤ 1000000 := by omega
    unfold mRg1 bnd
    rw [m1_eq (g := lenD) mv (len_row a)]
    simp [opt, h2, rgD_map]
  have e : (endOf a steps w).map PyData.int = (List.range a.length).map fun j : Nat => PyData.int (a.getD j 0 + (trends w).getD j 0 * steps.getD j 0) := by
    unfold endOf
    rw [List.map_map]
    rfl
  rw [e]
  have hwp : wipeS S [14] = S := by rw [hS]; rfl
  have e2 := lc_eq (vs := [14]) (g := gNm 14) (tt := mYes) (te := m2 addD (m2 ixD (mVar 3) (mVar 14)) (m2 mulD (m2 ixD (mVar 11) (mVar 14)) (m2 ixD (mVar 5) (mVar 14)))) hno src (by rw [List.length_map, List.length_range]; omega)
  rw [hwp] at e2
  exact e2.trans go
abbrev enB : Sx := sSeq (sSet 10 (m2 modD (m2 addD (mVar 6) (mVar 9)) (mC (.int 27)))) (sSeq (sSet 11 (mList (mLst (mCons (m2 subD (m2 fdivD (mVar 10) (mC (.int 9))) (mC (.int 1))) (mCons (m2 subD (m2 modD (m2 fdivD (mVar 10) (mC (.int 3))) (mC (.int 3))) (mC (.int 1))) (mCons (m2 subD (m2 modD (mVar 10) (mC (.int 3))) (mC (.int 1))) mNil)))))) (sApp 8 (m1 tupleD (mList (mLc [14] (mRg1 (m1 lenD (mVar 3))) (gNm 14) mYes (m2 addD (m2 ixD (mVar 3) (mVar 14)) (m2 mulD (m2 ixD (mVar 11) (mVar 14)) (m2 ixD (mVar 5) (mVar 14)))))))))
theorem ends_go {ts : List Thing} {n W : Int} {a steps : List Int} (h3 : ts.length ≤ 3) (ha : RowB ts n a) (hs : steps.length = a.length) (hw : W ≤ 40) (hb : ∀ s ∈ steps, 1 ≤ s ∧ s ≤ W) (B C D : Vl) (u : Int) (f : Vl) (m : Nat) : ∀ (k : Nat) (es : List (List Int)) (s9 s10 s11 : Sl) (rw : Ro), es.length + m ≤ 1000 → (∀ e ∈ es, RowB ts (n + 40) e) →
    ∃ (es' : List (List Int)) (s9' s10' s11' : Sl), forGo (gNm 9) enB ((List.range' k m).map fun i => .int (i : Nat)) [.row, .vl B, .vl C, .vl (.dat (rowD a)), .vl D, .vl (.dat (.list (steps.map .int))), .vl (.dat (.int u)), .vl f, .own (es.map rowD), s9, s10, s11, .no, .no, .no, .no] rw =
      some (.nx [.row, .vl B, .vl C, .vl (.dat (rowD a)), .vl D, .vl (.dat (.list (steps.map .int))), .vl (.dat (.int u)), .vl f, .own (es'.map rowD), s9', s10', s11', .no, .no, .no, .no] rw) ∧ es'.length = es.length + m ∧ ∀ e ∈ es', RowB ts (n + 40) e := by
  induction m with
  | zero => intro k es s9 s10 s11 rw _ h; exact ⟨es, s9, s10, s11, rfl, rfl, h⟩
  | succ m ih =>
    intro k es s9 s10 s11 rw hl h
    have la := ha.len
    let w : Int := (u + (k : Nat)) % 27
    have w0 : 0 ≤ w := Int.emod_nonneg _ (by decide)
    have w1 : w < 27 := Int.emod_lt_of_pos _ (by decide)
    let S0 : List Sl := [.row, .vl B, .vl C, .vl (.dat (rowD a)), .vl D, .vl (.dat (.list (steps.map .int))), .vl (.dat (.int u)), .vl f, .own (es.map rowD), .vl (.dat (.int (k : Nat))), s10, s11, .no, .no, .no, .no]
    let S1 : List Sl := [.row, .vl B, .vl C, .vl (.dat (rowD a)), .vl D, .vl (.dat (.list (steps.map .int))), .vl (.dat (.int u)), .vl f, .own (es.map rowD), .vl (.dat (.int (k : Nat))), .vl (.dat (.int w)), s11, .no, .no, .no, .no]
    let S2 : List Sl := [.row, .vl B, .vl C, .vl (.dat (rowD a)), .vl D, .vl (.dat (.list (steps.map .int))), .vl (.dat (.int u)), .vl f, .own (es.map rowD), .vl (.dat (.int (k : Nat))), .vl (.dat (.int w)), .vl (.dat (.list ((trends w).map .int))), .no, .no, .no, .no]
    have st1 : sSet 10 (m2 modD (m2 addD (mVar 6) (mVar 9)) (mC (.int 27))) S0 rw = some (.nx S1 rw) := set_eq (m2_eq (g := modD) (n := mC (.int 27)) (m2_eq (g := addD) (m := mVar 6) (n := mVar 9) rfl rfl rfl) rfl rfl) (by simp [S0])
    have st2 : sSet 11 (mList (mLst (mCons (m2 subD (m2 fdivD (mVar 10) (mC (.int 9))) (mC (.int 1))) (mCons (m2 subD (m2 modD (m2 fdivD (mVar 10) (mC (.int 3))) (mC (.int 3))) (mC (.int 1))) (mCons (m2 subD (m2 modD (mVar 10) (mC (.int 3))) (mC (.int 1))) mNil))))) S1 rw = some (.nx S2 rw) :=
      set_eq (list_eq (lst_eq (xs := [.dat (.int (w / 9 - 1)), .dat (.int (w / 3 % 3 - 1)), .dat (.int (w % 3 - 1))]) (cons_eq (m2_eq (g := subD) (n := mC (.int 1)) (m2_eq (g := fdivD) (m := mVar 10) (n := mC (.int 9)) rfl rfl rfl) rfl rfl) (cons_eq (m2_eq (g := subD) (n := mC (.int 1)) (m2_eq (g := modD) (n := mC (.int 3)) (m2_eq (g := fdivD) (m := mVar 10) (n := mC (.int 3)) rfl rfl rfl) rfl rfl) rfl rfl) (cons_eq (m2_eq (g := subD) (n := mC (.int 1)) (m2_eq (g := modD) (m := mVar 10) (n := mC (.int 3)) rfl rfl rfl) rfl rfl) nil_eq))) rfl (show (3 : Nat) ≤ 100000 by decide))) (by simp [S1])
    have lc := ends_lc .row (.vl B) (.vl C) (.vl D) (.vl (.dat (.int u))) (.vl f) (.own (es.map rowD)) (.vl (.dat (.int (k : Nat)))) (.vl (.dat (.int w))) .no w hs (by omega) (fun s hs => by have := hb s hs; omega) (S := S2) rfl (by rfl) rw
    have st3 := app_eq (i := 8) (ds := es.map rowD) (d := rowD (endOf a steps w)) (ss := S2) (rw := rw) rfl (m1_eq (g := tupleD) (list_eq lc) rfl) (by rw [List.length_map]; omega)
    have e9 : (es.map rowD ++ [rowD (endOf a steps w)]) = (es ++ [endOf a steps w]).map rowD := by rw [List.map_append]; rfl
    rw [e9] at st3
    obtain ⟨es', c, d, g, e, l', h'⟩ := ih (k + 1) (es ++ [endOf a steps w]) (.vl (.dat (.int (k : Nat)))) (.vl (.dat (.int w))) (.vl (.dat (.list ((trends w).map .int)))) rw (by rw [List.length_append]; simp; omega) (fun r hr => by
      rcases List.mem_append.mp hr with hr | hr
      · exact h r hr
      · rw [List.mem_singleton] at hr
        rw [hr]
        exact end_ok h3 ha hs hw hb w0 w1)
    refine ⟨es', c, d, g, ?_, by rw [l', List.length_append]; simp; omega, h'⟩
    rw [List.range'_succ, List.map_cons, forGo_step (ss1 := S0) rfl ((seq_nx st1).trans ((seq_nx st2).trans st3))]
    exact e
theorem eq_bool (v c : Int) : eqD (.dat (.int v)) (.dat (.int c)) = some (.dat (.bool (decide (v = c)))) := by
  unfold eqD
  simp only [eq_int]
theorem law_hour_val (ns : List Int) {ts : List Thing} {ties : List Tie} (hts : HouseOk ts) (ht : ∀ t ∈ ties, TieOk ts t) (hl : ties.length ≤ 1000) {n : Int} (hn : n ≤ 5000) {a : List Int} (ha : RowB ts n a) {rw : Ro} (h : 0 ≤ rw.1) :
    ∃ b rw', F__law_hour ns [.dat (thsD ts), .dat (tisD ties), .dat (rowD a)] rw = some (.dat (rowD b), rw') ∧ RowB ts (n + 40) b ∧ 0 ≤ rw'.1 := by
  have h3 := hts.l3
  have la := ha.len
  let T : Sl := .vl (.dat (thsD ts))
  let Ti : Sl := .vl (.dat (tisD ties))
  let A : Sl := .vl (.dat (rowD a))
  obtain ⟨v1, rw1, e1, v10, v11, r1⟩ := draw (ns := ns) (i := 0) (ma := mCons (mC (.int 3)) mNil) (ss := [.row, T, Ti, A, .no, .no, .no, .no, .no, .no, .no, .no, .no, .no, .no, .no]) (rw := rw) rfl rfl (by decide) h
  obtain ⟨W, ew, hW⟩ := pick3 (a := 2) (b := 6) (c := 40) v10 v11
  have st1 := set_eq (i := 4) (m2_eq (g := ixD) (m := mList (mLst (mCons (mC (.int 2)) (mCons (mC (.int 6)) (mCons (mC (.int 40)) mNil))))) (rw1 := rw) rfl e1 ew) (by simp)
  let S1 : List Sl := [.row, T, Ti, A, .vl (.dat (.int W)), .no, .no, .no, .no, .no, .no, .no, .no, .no, .no, .no]
  obtain ⟨steps, rw2, e2, l2, b2, r2⟩ := draws_go ns (w := W) (by omega) (S := S1) (i := 13) (j := 4) (fun d => ⟨[.row, T, Ti, A, .vl (.dat (.int W)), .no, .no, .no, .no, .no, .no, .no, .no, .vl (.dat d), .no, .no], rfl, rfl, rfl⟩) (a.map .int) rw1 r1
  rw [List.length_map] at l2
  have lc := (lc_eq (vs := [13]) (mi := mSeq (mVar 3)) (ss := S1) (rw := rw1) (rw1 := rw1) (xs := a.map .int) rfl rfl (by rw [List.length_map]; omega)).trans e2
  have st2 := set_eq (i := 5) (list_eq lc) (by simp [S1])
  let L : Sl := .vl (.dat (.list (steps.map .int)))
  obtain ⟨u, rw3, e3, u0, u1, r3⟩ := draw (ns := ns) (i := 0) (ma := mCons (mC (.int 27)) mNil) (ss := [.row, T, Ti, A, .vl (.dat (.int W)), L, .no, .no, .no, .no, .no, .no, .no, .no, .no, .no]) (rw := rw2) rfl rfl (by decide) r2
  have st3 := set_eq (i := 6) e3 (by simp)
  obtain ⟨z, rw4, e4, z0, z1, r4⟩ := draw (ns := ns) (i := 0) (ma := mCons (mC (.int 12)) mNil) (ss := [.row, T, Ti, A, .vl (.dat (.int W)), L, .vl (.dat (.int u)), .no, .no, .no, .no, .no, .no, .no, .no, .no]) (rw := rw3) rfl rfl (by decide) r3
  have st4 := set_eq (i := 7) (m2_eq (g := eqD) (n := mC (.int 11)) e4 rfl (eq_bool z 11)) (by simp)
  let f : Bool := decide (z = 11)
  obtain ⟨es, c9, c10, c11, e5, l5, b5⟩ := ends_go h3 ha l2 (by omega) b2 (.dat (thsD ts)) (.dat (tisD ties)) (.dat (.int W)) u (.dat (.bool f)) 27 0 [] .no .no .no rw4 (by decide) (fun e he => by cases he)
  let S6 : List Sl := [.row, T, Ti, A, .vl (.dat (.int W)), L, .vl (.dat (.int u)), .vl (.dat (.bool f)), .vl (.dat (.list (es.map rowD))), c9, c10, c11, .no, .no, .no, .no]
  have no6 : noOwn S6 [15] = true := rfl
  have wp6 : wipeS S6 [15] = S6 := rfl
  have l27 : es.length = 27 := by simpa using l5
  have go := lcGo_map (g := gNm 15) (tt := mOr (mTst (mVar 7)) (mTst (m2 isND (mCall F__law_kept (mCons (mVar 2) (mCons (mCall F__law_hour_of (mCons (mVar 1) (mCons (mVar 3) (mCons (mVar 15) mNil)))) mNil))) (mC .none)))) (te := mVar 15) (ss := S6) (rw := rw4) rowD rowD (fun e => f || (firstK ties (hrOf ts (a, e)) 0).isNone) es fun e he => by
    have oa := ha.ok (by omega)
    have oe := (b5 e he).ok (by omega)
    have hr := hr_law hts oa oe
    have lk := lkept_val ht hl (hr_ok hts oa oe) (by have := hr_len hts oa oe; omega)
    refine ⟨[.row, T, Ti, A, .vl (.dat (.int W)), L, .vl (.dat (.int u)), .vl (.dat (.bool f)), .vl (.dat (.list (es.map rowD))), c9, c10, c11, .no, .no, .no, .vl (.dat (rowD e))], rfl, ?_, fun _ => rfl⟩
    refine or_eq (tst_eq (m := mVar 7) rfl) (tst_eq (m2_eq (g := isND) (n := mC .none) (call_eq (cons_eq (m := mVar 2) rfl (cons_eq (call_eq (cons_eq (m := mVar 1) rfl (cons_eq (m := mVar 3) rfl (cons_eq (m := mVar 15) rfl nil_eq))) hr) nil_eq)) lk) rfl ?_))
    cases firstK ties (hrOf ts (a, e)) 0 <;> rfl
  have gm : ∀ e ∈ es.filter (fun e => f || (firstK ties (hrOf ts (a, e)) 0).isNone), e ∈ es := fun e he => (List.mem_filter.mp he).1
  have gl : (es.filter (fun e => f || (firstK ties (hrOf ts (a, e)) 0).isNone)).length ≤ es.length := List.length_filter_le _ _
  generalize es.filter (fun e => f || (firstK ties (hrOf ts (a, e)) 0).isNone) = good at go gm gl
  let S7 : List Sl := [.row, T, Ti, A, .vl (.dat (.int W)), L, .vl (.dat (.int u)), .vl (.dat (.bool f)), .vl (.dat (.list (es.map rowD))), c9, c10, c11, .vl (.dat (.list (good.map rowD))), .no, .no, .no]
  have lc2 := (lc_eq (vs := [15]) (mi := mSeq (mVar 8)) (ss := S6) (rw := rw4) (rw1 := rw4) (xs := es.map rowD) (g := gNm 15) (tt := mOr (mTst (mVar 7)) (mTst (m2 isND (mCall F__law_kept (mCons (mVar 2) (mCons (mCall F__law_hour_of (mCons (mVar 1) (mCons (mVar 3) (mCons (mVar 15) mNil)))) mNil))) (mC .none)))) (te := mVar 15) no6 rfl (by rw [List.length_map]; omega))
  rw [wp6] at lc2
  have st6 := set_eq (i := 12) (list_eq (lc2.trans go)) (by simp [S6])
  obtain ⟨e, re, he⟩ : ∃ e rest, good ++ es = e :: rest := by
    cases good with
    | cons e r => exact ⟨e, _, rfl⟩
    | nil =>
      cases es with
      | cons e r => exact ⟨e, _, rfl⟩
      | nil => simp at l27
  have em : e ∈ es := by
    have : e ∈ good ++ es := by rw [he]; exact List.mem_cons_self
    rcases List.mem_append.mp this with z | z
    · exact gm e z
    · exact z
  have ad : addD (.dat (.list (good.map rowD))) (.dat (.list (es.map rowD))) = some (.dat (.list (rowD e :: re.map rowD))) := by
    unfold addD
    simp only []
    rw [if_pos (by rw [List.length_map, List.length_map]; omega), ← List.map_append, he, List.map_cons]
  have i0 : ixD (.dat (.list (rowD e :: re.map rowD))) (.dat (.int 0)) = some (.dat (rowD e)) := by
    unfold ixD
    simp only [atI_0]
  have fin := ret_eq (m2_eq (g := ixD) (m2_eq (g := addD) (m := mVar 12) (n := mVar 8) (ss := S7) (rw := rw4) rfl rfl ad) (n := mC (.int 0)) rfl i0)
  refine ⟨e, rw4, ?_, b5 e em, r4⟩
  refine bodyR_rt rfl ((seq_nx st1).trans ((seq_nx st2).trans ((seq_nx st3).trans ((seq_nx st4).trans ((seq_nx (ss1 := [.row, T, Ti, A, .vl (.dat (.int W)), L, .vl (.dat (.int u)), .vl (.dat (.bool f)), .own [], .no, .no, .no, .no, .no, .no, .no]) (rw1 := rw4) rfl).trans ((seq_nx ((for_eq (xs := (List.range' 0 27).map fun i => .int (i : Nat)) (rw1 := rw4) rfl).trans e5)).trans ?_))))))
  have f6 : sFrz 8 (sSet 12 (mList (mLc [15] (mSeq (mVar 8)) (gNm 15) (mOr (mTst (mVar 7)) (mTst (m2 isND (mCall F__law_kept (mCons (mVar 2) (mCons (mCall F__law_hour_of (mCons (mVar 1) (mCons (mVar 3) (mCons (mVar 15) mNil)))) mNil))) (mC .none)))) (mVar 15)))) [.row, T, Ti, A, .vl (.dat (.int W)), L, .vl (.dat (.int u)), .vl (.dat (.bool f)), .own (es.map rowD), c9, c10, c11, .no, .no, .no, .no] rw4 = some (.nx S7 rw4) := st6
  exact (seq_nx f6).trans fin
abbrev bgG : PyData → List Sl → Option (List Sl) := gTp 2 (gsCons (gNm 5) (gsCons (gNm 6) gsNil))
abbrev bgB (ns : List Int) : Sx := sSeq (sSet 7 (m2 subD (m2 addD (m2 ixD (mVar 6) (mCallR 0 (F__law_taken ns) (mCons (m1 lenD (mVar 6)) mNil))) (mCallR 0 (F__law_taken ns) (mCons (mC (.int 7)) mNil))) (mC (.int 3)))) (sApp 4 (m2 ixD (mList (mLst (mCons (mVar 7) (mCons (m2 subD (mCallR 0 (F__law_taken ns) (mCons (mC (.int 241)) mNil)) (mC (.int 120))) mNil)))) (m1 intD (m2 eqD (mCallR 0 (F__law_taken ns) (mCons (mC (.int 5)) mNil)) (mC (.int 4))))))
theorem marks_ix {ms : List Int} {v : Int} (h0 : 0 ≤ v) (h1 : v < (ms.length : Nat)) : ∃ m ∈ ms, ixD (.dat (mkD ms)) (.dat (.int v)) = some (.dat (.int m)) := by
  obtain ⟨k, rfl⟩ : ∃ k : Nat, v = k := ⟨v.toNat, by omega⟩
  have hk : ms[k]? = some (ms[k]'(by omega)) := List.getElem?_eq_getElem (by omega)
  exact ⟨_, List.mem_of_getElem? hk, row_ix hk⟩
theorem begin_go (ns : List Int) (T Ti H : Vl) : ∀ (us : List Thing) (acc : List Int) (s5 s6 s7 : Sl) (rw : Ro), (∀ t ∈ us, MarksOk t.2) → (∀ x ∈ acc, -120 ≤ x ∧ x ≤ 120) → acc.length + us.length ≤ 100 → 0 ≤ rw.1 →
    ∃ (acc' : List Int) (s5' s6' s7' : Sl) (rw' : Ro), forGo bgG (bgB ns) (us.map thD) [.row, .vl T, .vl Ti, .vl H, .own (acc.map .int), s5, s6, s7, .no, .no] rw = some (.nx [.row, .vl T, .vl Ti, .vl H, .own (acc'.map .int), s5', s6', s7', .no, .no] rw') ∧ acc'.length = acc.length + us.length ∧ (∀ x ∈ acc', -120 ≤ x ∧ x ≤ 120) ∧ 0 ≤ rw'.1 := by
  intro us
  induction us with
  | nil => intro acc s5 s6 s7 rw _ h _ r; exact ⟨acc, s5, s6, s7, rw, rfl, rfl, h, r⟩
  | cons t us ih =>
    intro acc s5 s6 s7 rw hm hb hl h
    rw [List.length_cons] at hl
    have mk := hm t List.mem_cons_self
    have l1 := mk.l1
    let S0 : List Sl := [.row, .vl T, .vl Ti, .vl H, .own (acc.map .int), .vl (.dat (.str t.1)), .vl (.dat (mkD t.2)), s7, .no, .no]
    obtain ⟨v1, rw1, e1, v10, v11, r1⟩ := draw (ns := ns) (i := 0) (ma := mCons (m1 lenD (mVar 6)) mNil) (ss := S0) (rw := rw) rfl (cons_eq (m1_eq (g := lenD) (m := mVar 6) rfl (len_marks t.2)) nil_eq) (by omega) h
    obtain ⟨m, mm, em⟩ := marks_ix (ms := t.2) v10 v11
    have mb := mk.in_ m mm
    obtain ⟨v2, rw2, e2, v20, v21, r2⟩ := draw (ns := ns) (i := 0) (ma := mCons (mC (.int 7)) mNil) (ss := S0) (rw := rw1) rfl rfl (by decide) r1
    have st1 := set_eq (i := 7) (m2_eq (g := subD) (n := mC (.int 3)) (m2_eq (g := addD) (m2_eq (g := ixD) (m := mVar 6) rfl e1 em) e2 rfl) rfl (z := .dat (.int (m + v2 - 3))) rfl) (by simp [S0])
    let S1 : List Sl := [.row, .vl T, .vl Ti, .vl H, .own (acc.map .int), .vl (.dat (.str t.1)), .vl (.dat (mkD t.2)), .vl (.dat (.int (m + v2 - 3))), .no, .no]
    obtain ⟨v3, rw3, e3, v30, v31, r3⟩ := draw (ns := ns) (i := 0) (ma := mCons (mC (.int 241)) mNil) (ss := S1) (rw := rw2) rfl rfl (by decide) r2
    obtain ⟨v4, rw4, e4, v40, v41, r4⟩ := draw (ns := ns) (i := 0) (ma := mCons (mC (.int 5)) mNil) (ss := S1) (rw := rw3) rfl rfl (by decide) r3
    have ls := list_eq (lst_eq (ds := [.int (m + v2 - 3), .int (v3 - 120)]) (cons_eq (m := mVar 7) (ss := S1) rfl (cons_eq (m2_eq (g := subD) (n := mC (.int 120)) e3 rfl rfl) nil_eq)) rfl (show (2 : Nat) ≤ 100000 by decide))
    have ib := m1_eq (g := intD) (m2_eq (g := eqD) (n := mC (.int 4)) e4 rfl (eq_bool v4 4)) (int_b (decide (v4 = 4)))
    obtain ⟨x, ex, bx⟩ : ∃ x, ixD (.dat (.list [.int (m + v2 - 3), .int (v3 - 120)])) (.dat (.int (if decide (v4 = 4) = true then 1 else 0))) = some (.dat (.int x)) ∧ -120 ≤ x ∧ x ≤ 120 := by
      by_cases z : v4 = 4
      · exact ⟨v3 - 120, by rw [if_pos (by simpa using z)]; rfl, by omega⟩
      · exact ⟨m + v2 - 3, by rw [if_neg (by simpa using z)]; rfl, by omega⟩
    have st2 := app_eq (i := 4) (ds := acc.map .int) (d := .int x) (ss := S1) (rw := rw2) rfl (m2_eq (g := ixD) ls ib ex) (by rw [List.length_map]; omega)
    have e9 : (acc.map PyData.int ++ [.int x]) = (acc ++ [x]).map .int := by rw [List.map_append]; rfl
    rw [e9] at st2
    obtain ⟨acc', a, b, c, rw', e, l', b', r'⟩ := ih (acc ++ [x]) (.vl (.dat (.str t.1))) (.vl (.dat (mkD t.2))) (.vl (.dat (.int (m + v2 - 3)))) rw4 (fun z hz => hm z (List.mem_cons_of_mem _ hz)) (fun z hz => by
      rcases List.mem_append.mp hz with hz | hz
      · exact hb z hz
      · rw [List.mem_singleton] at hz; rw [hz]; exact bx) (by rw [List.length_append]; simp; omega) r4
    refine ⟨acc', a, b, c, rw', ?_, by rw [l', List.length_append, List.length_cons]; simp; omega, b', r'⟩
    rw [List.map_cons, forGo_step (ss1 := S0) rfl ((seq_nx st1).trans st2)]
    exact e
abbrev rwB (ns : List Int) : Sx := sApp 8 (mCallR 0 (F__law_hour ns) (mCons (mVar 1) (mCons (mVar 2) (mCons (mIxV 8 (m1 negD (mC (.int 1)))) mNil))))
theorem rows_go (ns : List Int) {ts : List Thing} {ties : List Tie} (hts : HouseOk ts) (ht : ∀ t ∈ ties, TieOk ts t) (hl : ties.length ≤ 1000) (A B s5 s6 s7 : Sl) : ∀ (xs : List PyData) (rows : List (List Int)) (n : Int) (s9 : Sl) (rw : Ro), rows ≠ [] → (∀ r ∈ rows, RowB ts n r) → n + 40 * (xs.length : Nat) ≤ 5000 → rows.length + xs.length ≤ 1000 → 0 ≤ rw.1 →
    ∃ (rows' : List (List Int)) (s9' : Sl) (rw' : Ro), forGo (gNm 9) (rwB ns) xs [.row, .vl (.dat (thsD ts)), .vl (.dat (tisD ties)), A, B, s5, s6, s7, .own (rows.map rowD), s9] rw = some (.nx [.row, .vl (.dat (thsD ts)), .vl (.dat (tisD ties)), A, B, s5, s6, s7, .own (rows'.map rowD), s9'] rw') ∧ rows'.length = rows.length + xs.length ∧ (∀ r ∈ rows', RowB ts 5000 r) ∧ 0 ≤ rw'.1
  | [], rows, n, s9, rw, _, hb, hn, _, r => ⟨rows, s9, rw, rfl, rfl, fun z hz => (hb z hz).mono (by simp at hn; exact hn), r⟩
  | x :: xs, rows, n, s9, rw, hne, hb, hn, hl2, r => by
    rw [List.length_cons] at hn hl2
    obtain ⟨a, ha⟩ : ∃ a, rows.getLast? = some a := by
      cases q : rows.getLast? with
      | none => exact absurd (List.getLast?_eq_none_iff.mp q) hne
      | some a => exact ⟨a, rfl⟩
    have am : a ∈ rows := List.mem_of_getLast? ha
    obtain ⟨b, rw1, e1, b1, r1⟩ := law_hour_val ns hts ht hl (n := n) (by omega) (hb a am) r
    let S : List Sl := [.row, .vl (.dat (thsD ts)), .vl (.dat (tisD ties)), A, B, s5, s6, s7, .own (rows.map rowD), .vl (.dat x)]
    have ia : mIxV 8 (m1 negD (mC (.int 1))) S rw = some (.dat (rowD a), rw) := by
      have aL : atI (rows.map rowD) (-1) = some (rowD a) := atI_last (by rw [List.getLast?_map, ha]; rfl)
      simp [mIxV, m1, negD, mC, bnd, opt, pur, aL, S]
    have st := app_eq (i := 8) (ds := rows.map rowD) (d := rowD b) (ss := S) (rw := rw) rfl (callR_eq (i := 0) rfl (cons_eq (m := mVar 1) rfl (cons_eq (m := mVar 2) rfl (cons_eq ia nil_eq))) e1) (by rw [List.length_map]; omega)
    have e9 : (rows.map rowD ++ [rowD b]) = (rows ++ [b]).map rowD := by rw [List.map_append]; rfl
    rw [e9] at st
    obtain ⟨rows', s9', rw', e, l', b', r'⟩ := rows_go ns hts ht hl A B s5 s6 s7 xs (rows ++ [b]) (n + 40) (.vl (.dat x)) rw1 (by simp) (fun z hz => by
      rcases List.mem_append.mp hz with hz | hz
      · exact (hb z hz).mono (by omega)
      · rw [List.mem_singleton] at hz; rw [hz]; exact b1) (by omega) (by rw [List.length_append]; simp; omega) r1
    refine ⟨rows', s9', rw', ?_, by rw [l', List.length_append, List.length_cons]; simp; omega, b', r'⟩
    rw [forGo_step (ss1 := S) rfl st]
    exact e
theorem rows_val (ns : List Int) {ts : List Thing} {ties : List Tie} (hts : HouseOk ts) (ht : ∀ t ∈ ties, TieOk ts t) (hl : ties.length ≤ 1000) {hours : Int} (h1 : 0 < hours) (h9 : hours ≤ 15) {rw : Ro} (h : 0 ≤ rw.1) :
    ∃ rows rw', F__law_rows ns [.dat (thsD ts), .dat (tisD ties), .dat (.int hours)] rw = some (.dat (rowsD rows), rw') ∧ RowsOk ts rows ∧ 2 ≤ rows.length ∧ rows.length ≤ 20 ∧ 0 ≤ rw'.1 := by
  have h3 := hts.l3
  let T : Vl := .dat (thsD ts)
  let Ti : Vl := .dat (tisD ties)
  obtain ⟨bg, s5, s6, s7, rw1, e1, l1, b1, r1⟩ := begin_go ns T Ti (.dat (.int hours)) ts [] .no .no .no rw (fun t ht => hts.mks t ht) (fun x hx => by cases hx) (by simp; omega) h
  rw [List.length_nil, Nat.zero_add] at l1
  let S2 : List Sl := [.row, .vl T, .vl Ti, .vl (.dat (.int hours)), .vl (.dat (.list (bg.map .int))), s5, s6, s7, .own [rowD bg], .no]
  obtain ⟨v, rw2, e2, v0, v1, r2⟩ := draw (ns := ns) (i := 0) (ma := mCons (mVar 3) mNil) (ss := S2) (rw := rw1) rfl rfl h1 r1
  have src : mRg1 (m2 addD (mC (.int 1)) (mCallR 0 (F__law_taken ns) (mCons (mVar 3) mNil))) S2 rw1 = some (rgD 0 (1 + v).toNat, rw2) := by
    unfold mRg1 bnd
    rw [m2_eq (g := addD) (m := mC (.int 1)) rfl e2 (z := .dat (.int (1 + v))) rfl]
    simp only [opt]
    rw [if_pos (by omega)]
  have rl : (rgD 0 (1 + v).toNat).length = (1 + v).toNat := by unfold rgD; rw [List.length_map, List.length_range]
  obtain ⟨rows, s9, rw3, e3, l3, b3, r3⟩ := rows_go ns hts ht hl (.vl (.dat (.int hours))) (.vl (.dat (.list (bg.map .int)))) s5 s6 s7 (rgD 0 (1 + v).toNat) [bg] 120 .no rw2 (by simp) (fun r hr => by
    rw [List.mem_singleton] at hr
    rw [hr]
    exact ⟨l1, b1⟩) (by rw [rl]; omega) (by rw [rl]; simp; omega) r2
  rw [rl] at l3
  refine ⟨rows, rw3, ?_, fun r hr => (b3 r hr).ok (by decide), by rw [l3]; simp; omega, by rw [l3]; simp; omega, r3⟩
  refine bodyR_rl rfl ((seq_nx (ss1 := [.row, .vl T, .vl Ti, .vl (.dat (.int hours)), .own [], .no, .no, .no, .no, .no]) (rw1 := rw) rfl).trans ((seq_nx ((for_eq (xs := ts.map thD) (rw1 := rw) rfl).trans e1)).trans ?_))
  have f4 : sFrz 4 (sOwn 8 (mLst (mCons (m1 tupleD (mVar 4)) mNil))) [.row, .vl T, .vl Ti, .vl (.dat (.int hours)), .own (bg.map .int), s5, s6, s7, .no, .no] rw1 = some (.nx S2 rw1) := rfl
  exact (seq_nx f4).trans ((seq_nx ((for_eq src).trans e3)).trans rfl)
end Law
/-! Runs drawn in two ways; lists that are none; what they are refused with. -/
namespace Law
open PySem L2 FL
/-! ### rows of any numbers -/
theorem half_any {far : Int} : fdivD (.dat (.int far)) (.dat (.int 2)) = some (.dat (.int (far / 2))) := rfl
theorem any_draws (ns : List Int) {w : Int} (hw : 0 < w) (hw2 : w ≤ 300) {S : List Sl} {i j : Nat} (hg : ∀ d, ∃ S1, gNm i d S = some S1 ∧ S1[0]? = some .row ∧ mVar j S1 = fun rw => some (.dat (.int w), rw)) : ∀ (xs : List PyData) (rw : Ro), 0 ≤ rw.1 →
    ∃ (ss : List Int) (rw' : Ro), lcGo (gNm i) mYes (m2 subD (mCallR 0 (F__law_taken ns) (mCons (mVar j) mNil)) (m2 fdivD (mVar j) (mC (.int 2)))) S xs rw = some (ss.map .int, rw') ∧ ss.length = xs.length ∧ (∀ s ∈ ss, -300 ≤ s ∧ s ≤ 300) ∧ 0 ≤ rw'.1
  | [], rw, h => ⟨[], rw, rfl, rfl, (fun s hs => by cases hs), h⟩
  | x :: xs, rw, h => by
    obtain ⟨S1, g1, g2, g3⟩ := hg x
    have mv : ∀ rw, mVar j S1 rw = some (.dat (.int w), rw) := fun rw => by rw [g3]
    have ma : mCons (mVar j) mNil S1 rw = some ([.dat (.int w)], rw) := cons_eq (mv rw) nil_eq
    obtain ⟨v, rw1, e1, v0, v1, r1⟩ := draw (ns := ns) (i := 0) g2 ma hw h
    obtain ⟨ss, rw2, e2, l2, b2, r2⟩ := any_draws ns hw hw2 hg xs rw1 r1
    have te := m2_eq (g := subD) (n := m2 fdivD (mVar j) (mC (.int 2))) (ss := S1) (rw := rw) e1 (m2_eq (g := fdivD) (n := mC (.int 2)) (mv rw1) rfl half_any) (z := .dat (.int (v - w / 2))) rfl
    refine ⟨(v - w / 2) :: ss, rw2, ?_, by simp [l2], fun s hs => ?_, r2⟩
    · unfold lcGo
      rw [g1]
      simp only [show mYes S1 rw = some (true, rw) from rfl, te, e2]
      rfl
    · rcases List.mem_cons.mp hs with rfl | hs
      · omega
      · exact b2 s hs
abbrev anB (ns : List Int) : Sx := sApp 4 (m1 tupleD (mList (mLc [6] (mSeq (mVar 1)) (gNm 6) mYes (m2 subD (mCallR 0 (F__law_taken ns) (mCons (mVar 3) mNil)) (m2 fdivD (mVar 3) (mC (.int 2)))))))
theorem any_rows (ns : List Int) {ts : List Thing} (h3 : ts.length ≤ 3) {far : Int} (hf : 0 < far) (hf2 : far ≤ 300) (B : Vl) : ∀ (xs : List PyData) (rows : List (List Int)) (s5 : Sl) (rw : Ro), rows.length + xs.length ≤ 1000 → (∀ r ∈ rows, RowB ts 300 r) → 0 ≤ rw.1 →
    ∃ (rows' : List (List Int)) (s5' : Sl) (rw' : Ro), forGo (gNm 5) (anB ns) xs [.row, .vl (.dat (thsD ts)), .vl B, .vl (.dat (.int far)), .own (rows.map rowD), s5, .no] rw = some (.nx [.row, .vl (.dat (thsD ts)), .vl B, .vl (.dat (.int far)), .own (rows'.map rowD), s5', .no] rw') ∧ rows'.length = rows.length + xs.length ∧ (∀ r ∈ rows', RowB ts 300 r) ∧ 0 ≤ rw'.1
  | [], rows, s5, rw, _, hb, h => ⟨rows, s5, rw, rfl, rfl, hb, h⟩
  | x :: xs, rows, s5, rw, hl, hb, h => by
    rw [List.length_cons] at hl
    let S : List Sl := [.row, .vl (.dat (thsD ts)), .vl B, .vl (.dat (.int far)), .own (rows.map rowD), .vl (.dat x), .no]
    obtain ⟨ss, rw1, e1, l1, b1, r1⟩ := any_draws ns hf hf2 (S := S) (i := 6) (j := 3) (fun d => ⟨[.row, .vl (.dat (thsD ts)), .vl B, .vl (.dat (.int far)), .own (rows.map rowD), .vl (.dat x), .vl (.dat d)], rfl, rfl, rfl⟩) (ts.map thD) rw h
    rw [List.length_map] at l1
    have lc := (lc_eq (vs := [6]) (mi := mSeq (mVar 1)) (ss := S) (rw := rw) (rw1 := rw) (xs := ts.map thD) rfl rfl (by rw [List.length_map]; omega)).trans e1
    have st := app_eq (i := 4) (ds := rows.map rowD) (d := rowD ss) (ss := S) (rw := rw) rfl (m1_eq (g := tupleD) (list_eq lc) rfl) (by rw [List.length_map]; omega)
    have e9 : (rows.map rowD ++ [rowD ss]) = (rows ++ [ss]).map rowD := by rw [List.map_append]; rfl
    rw [e9] at st
    obtain ⟨rows', s5', rw', e, l', b', r'⟩ := any_rows ns h3 hf hf2 B xs (rows ++ [ss]) (.vl (.dat x)) rw1 (by rw [List.length_append]; simp; omega) (fun z hz => by
      rcases List.mem_append.mp hz with hz | hz
      · exact hb z hz
      · rw [List.mem_singleton] at hz; rw [hz]; exact ⟨l1, b1⟩) r1
    refine ⟨rows', s5', rw', ?_, by rw [l', List.length_append, List.length_cons]; simp; omega, b', r'⟩
    rw [forGo_step (ss1 := S) rfl st]
    exact e
theorem run_val (ns : List Int) {ts : List Thing} {ties : List Tie} (hts : HouseOk ts) (ht : ∀ t ∈ ties, TieOk ts t) (hl : ties.length ≤ 1000) {rw : Ro} (h : 0 ≤ rw.1) :
    ∃ rows rw', F__law_run ns [.dat (thsD ts), .dat (tisD ties)] rw = some (.dat (rowsD rows), rw') ∧ RowsOk ts rows ∧ 2 ≤ rows.length ∧ rows.length ≤ 20 ∧ 0 ≤ rw'.1 := by
  let S0 : List Sl := [.row, .vl (.dat (thsD ts)), .vl (.dat (tisD ties)), .no, .no, .no, .no]
  obtain ⟨v, rw1, e1, v0, v1, r1⟩ := draw (ns := ns) (i := 0) (ma := mCons (mC (.int 2)) mNil) (ss := S0) (rw := rw) rfl rfl (by decide) h
  have tv : mTst (m2 eqD (mCallR 0 (F__law_taken ns) (mCons (mC (.int 2)) mNil)) (mC (.int 0))) S0 rw = some (decide (v = 0), rw1) := tst_eq (m2_eq (g := eqD) (n := mC (.int 0)) e1 rfl (eq_bool v 0))
  by_cases z : v = 0
  · rw [decide_eq_true z] at tv
    obtain ⟨rows, rw2, e2, a, b, c, r2⟩ := rows_val ns hts ht hl (hours := 9) (by decide) (by decide) r1
    exact ⟨rows, rw2, bodyR_rt rfl (seq_rt ((ifT tv).trans (ret_eq (callR_eq (i := 0) (ma := mCons (mVar 1) (mCons (mVar 2) (mCons (mC (.int 9)) mNil))) rfl rfl e2)))), a, b, c, r2⟩
  · rw [decide_eq_false z] at tv
    obtain ⟨u, rw2, e2, u0, u1, r2⟩ := draw (ns := ns) (i := 0) (ma := mCons (mC (.int 2)) mNil) (ss := S0) (rw := rw1) rfl rfl (by decide) r1
    obtain ⟨far, ef, hf⟩ : ∃ w, ixD (.dat (.list [.int 6, .int 261])) (.dat (.int u)) = some (.dat (.int w)) ∧ (w = 6 ∨ w = 261) := by
      have : u = 0 ∨ u = 1 := by omega
      rcases this with rfl | rfl
      · exact ⟨6, rfl, .inl rfl⟩
      · exact ⟨261, rfl, .inr rfl⟩
    have st2 := set_eq (i := 3) (m2_eq (g := ixD) (m := mList (mLst (mCons (mC (.int 6)) (mCons (mC (.int 261)) mNil)))) (ss := S0) (rw := rw1) rfl e2 ef) (by simp [S0])
    let S2 : List Sl := [.row, .vl (.dat (thsD ts)), .vl (.dat (tisD ties)), .vl (.dat (.int far)), .own [], .no, .no]
    obtain ⟨y, rw3, e3, y0, y1, r3⟩ := draw (ns := ns) (i := 0) (ma := mCons (mC (.int 9)) mNil) (ss := S2) (rw := rw2) rfl rfl (by decide) r2
    have src : mRg1 (m2 addD (mC (.int 2)) (mCallR 0 (F__law_taken ns) (mCons (mC (.int 9)) mNil))) S2 rw2 = some (rgD 0 (2 + y).toNat, rw3) := by
      unfold mRg1 bnd
      rw [m2_eq (g := addD) (m := mC (.int 2)) rfl e3 (z := .dat (.int (2 + y))) rfl]
      simp only [opt]
      rw [if_pos (by omega)]
    have rl : (rgD 0 (2 + y).toNat).length = (2 + y).toNat := by unfold rgD; rw [List.length_map, List.length_range]
    obtain ⟨rows, s5, rw4, e4, l4, b4, r4⟩ := any_rows ns hts.l3 (far := far) (by omega) (by omega) (.dat (tisD ties)) (rgD 0 (2 + y).toNat) [] .no rw3 (by rw [rl]; simp; omega) (fun r hr => by cases hr) r3
    rw [rl] at l4
    refine ⟨rows, rw4, bodyR_rl rfl ((seq_nx ((ifF tv).trans rfl)).trans ((seq_nx st2).trans ((seq_nx (ss1 := S2) (rw1 := rw2) rfl).trans ((seq_nx ((for_eq src).trans e4)).trans rfl)))), fun r hr => (b4 r hr).ok (by decide), by rw [l4]; simp; omega, by rw [l4]; simp; omega, r4⟩
/-! ### lists that are no run -/
theorem nin_list (k : Nat) (bs : List Nat) : ninD (.dat (.int (k : Nat))) (.dat (.list (bs.map fun b : Nat => PyData.int b))) = some (.dat (.bool (!decide (k ∈ bs)))) := by
  have e : bs.map (fun b : Nat => PyData.int b) = (bs.map fun b : Nat => (b : Int)).map .int := by rw [List.map_map]; rfl
  have i := in_ints (k : Int) (bs.map fun b : Nat => (b : Int))
  rw [← e] at i
  have q : ((k : Int) ∈ bs.map fun b : Nat => (b : Int)) ↔ k ∈ bs := by
    rw [List.mem_map]
    constructor
    · rintro ⟨b, hb, e⟩
      have : b = k := by omega
      exact this ▸ hb
    · intro h; exact ⟨k, h, rfl⟩
  unfold inD at i
  unfold ninD
  cases e2 : inO (.int (k : Int)) (.list (bs.map fun b : Nat => PyData.int b)) with
  | none => simp only [e2] at i; cases i
  | some b =>
    simp only [e2] at i ⊢
    have i : b = decide ((k : Int) ∈ bs.map fun b : Nat => (b : Int)) := by simpa using i
    rw [i, decide_eq_decide.mpr q]
theorem fold_least : ∀ (ns : List Int) (a : Int), (ns.foldl (fun a b => if b < a then b else a) a = a ∨ ns.foldl (fun a b => if b < a then b else a) a ∈ ns) ∧ ns.foldl (fun a b => if b < a then b else a) a ≤ a ∧ ∀ b ∈ ns, ns.foldl (fun a b => if b < a then b else a) a ≤ b
  | [], a => ⟨.inl rfl, Int.le_refl _, fun b hb => by cases hb⟩
  | n :: ns, a => by
    obtain ⟨h1, h2, h3⟩ := fold_least ns (if n < a then n else a)
    rw [List.foldl_cons]
    refine ⟨?_, ?_, fun b hb => ?_⟩
    · rcases h1 with h1 | h1
      · rw [h1]
        split
        · exact .inr List.mem_cons_self
        · exact .inl rfl
      · exact .inr (List.mem_cons_of_mem _ h1)
    · refine Int.le_trans h2 ?_
      split <;> omega
    · rcases List.mem_cons.mp hb with rfl | hb
      · refine Int.le_trans h2 ?_
        split <;> omega
      · exact h3 b hb
theorem minL_of : ∀ (ns : List Int) (n : Int), minL (n :: ns) ∈ n :: ns ∧ ∀ b ∈ n :: ns, minL (n :: ns) ≤ b := fun ns n => by
  obtain ⟨h1, h2, h3⟩ := fold_least ns n
  refine ⟨?_, fun b hb => ?_⟩
  · show ns.foldl _ n ∈ _
    rcases h1 with h1 | h1
    · rw [h1]; exact List.mem_cons_self
    · exact List.mem_cons_of_mem _ h1
  · show ns.foldl _ n ≤ b
    rcases List.mem_cons.mp hb with rfl | hb
    · exact h2
    · exact h3 b hb
/-- the rows with a wrong number of numbers are those at bs -/
def Bads (n : Nat) (qs : List (List Int)) (bs : List Nat) : Prop := (∀ b ∈ bs, b < qs.length) ∧ ∀ k q, qs[k]? = some q → (q.length ≠ n ↔ k ∈ bs)
theorem bad_least {n : Nat} : ∀ (qs : List (List Int)) (k0 j : Nat), (∃ q, qs[j]? = some q ∧ q.length ≠ n) → (∀ i q, i < j → qs[i]? = some q → q.length = n) → badAt n qs k0 = some (k0 + j)
  | [], _, j, ⟨q, h, _⟩, _ => by simp at h
  | r :: qs, k0, 0, ⟨q, h, hn⟩, _ => by
    simp at h
    subst h
    unfold badAt
    rw [if_neg hn]
    rfl
  | r :: qs, k0, j + 1, ⟨q, h, hn⟩, hb => by
    unfold badAt
    rw [if_pos (hb 0 r (by omega) rfl)]
    have := bad_least (n := n) qs (k0 + 1) j ⟨q, by simpa using h, hn⟩ fun i q hi e => hb (i + 1) q (by omega) (by simpa using e)
    rw [this]
    congr 1
    omega
abbrev bdB (ns : List Int) : Sx := sSeq (sSet 6 (mCallR 0 (F__law_taken ns) (mCons (mLenO 3) mNil))) (sIf (mBor 4 (mTst (m2 ninD (mVar 6) (mVar 4)))) (sSeq (sSetO 3 (mVar 6) (m2 ixD (mList (mLst (mCons (mSl (mIxV 3 (mVar 6)) (mSome (mC (.int 1))) mNone) (mCons (m2 addD (mIxV 3 (mVar 6)) (mTup (mCons (mC (.int 7)) mNil))) mNil)))) (mCallR 0 (F__law_taken ns) (mCons (mC (.int 2)) mNil)))) (sApp 4 (mVar 6))) sNx)
abbrev nD1 (bs : List Nat) : List PyData := bs.map fun b : Nat => PyData.int b
theorem row_drop (q : List Int) : slD (.dat (rowD q)) (some 1) none = some (.dat (rowD (q.drop 1))) := by
  unfold slD rowD cutD
  have e1 : ∀ n : Nat, HT.sIx n 0 (some 1) = min 1 n := fun n => by
    unfold HT.sIx
    simp only []
    rw [if_neg (by decide)]
    rfl
  simp only [e1, HT.sIx_none, List.length_map]
  congr 3
  cases q with
  | nil => rfl
  | cons x q =>
    have : min 1 (x :: q).length = 1 := by rw [List.length_cons]; omega
    rw [this]
    simp
    exact List.take_of_length_le (by rw [List.length_map]; exact Nat.le_refl _)
theorem ixV_own {i : Nat} {fb : Mx Vl} {ss : List Sl} {rw rw1 : Ro} {qs : List (List Int)} {k : Nat} {q : List Int} (h : ss[i]? = some (.own (qs.map rowD))) (hb : fb ss rw = some (.dat (.int (k : Nat)), rw1)) (hk : qs[k]? = some q) : mIxV i fb ss rw = some (.dat (rowD q), rw1) := by
  have a := atI_mapD rowD hk
  unfold mIxV bnd
  rw [hb]
  simp only []
  rw [h]
  simp only [a]
theorem setO_eq {i : Nat} {mk m : Mx Vl} {ss : List Sl} {rw rw1 rw2 : Ro} {d : PyData} {k : Nat} {ds : List PyData} (h1 : m ss rw = some (.dat d, rw1)) (h2 : mk ss rw1 = some (.dat (.int (k : Nat)), rw2)) (h3 : ss[i]? = some (.own ds)) (h4 : k < ds.length) : sSetO i mk m ss rw = some (.nx (ss.set i (.own (ds.set k d))) rw2) := by
  have e : ixN ds.length (k : Int) = some k := by
    unfold ixN
    rw [if_pos (by omega), if_pos (by omega)]
    rfl
  unfold sSetO
  rw [h1]
  simp only []
  rw [h2]
  simp only []
  rw [h3]
  simp only [e]
theorem bad_go (ns : List Int) (R F : Vl) {n : Nat} (hn : 1 ≤ n) (hn3 : n ≤ 3) : ∀ (xs : List PyData) (qs : List (List Int)) (bs : List Nat) (s5 s6 : Sl) (rw : Ro), 0 < qs.length → qs.length ≤ 50 → bs.length + xs.length ≤ 100 → Bads n qs bs → (xs ≠ [] ∨ bs ≠ []) → 0 ≤ rw.1 →
    ∃ (qs' : List (List Int)) (bs' : List Nat) (s5' s6' : Sl) (rw' : Ro), forGo (gNm 5) (bdB ns) xs [.row, .vl R, .no, .own (qs.map rowD), .own (nD1 bs), s5, s6] rw = some (.nx [.row, .vl R, .no, .own (qs'.map rowD), .own (nD1 bs'), s5', s6'] rw') ∧ qs'.length = qs.length ∧ Bads n qs' bs' ∧ bs' ≠ [] ∧ bs'.length ≤ bs.length + xs.length ∧ 0 ≤ rw'.1
  | [], qs, bs, s5, s6, rw, _, _, _, hb, hne, h => ⟨qs, bs, s5, s6, rw, rfl, rfl, hb, hne.resolve_left fun z => z rfl, by simp, h⟩
  | x :: xs, qs, bs, s5, s6, rw, h0, h50, hl, hb, hne, h => by
    rw [List.length_cons] at hl
    let S0 : List Sl := [.row, .vl R, .no, .own (qs.map rowD), .own (nD1 bs), .vl (.dat x), s6]
    have ln : mLenO 3 S0 rw = some (.dat (.int (qs.length : Nat)), rw) := by
      unfold mLenO
      show (match some (Sl.own (qs.map rowD)) with | some (.own ds) => some (Vl.dat (.int (ds.length : Nat)), rw) | _ => none) = _
      simp only [List.length_map]
    obtain ⟨v, rw1, e1, v0, v1, r1⟩ := draw (ns := ns) (i := 0) (ma := mCons (mLenO 3) mNil) (ss := S0) (rw := rw) rfl (cons_eq ln nil_eq) (by omega) h
    obtain ⟨k, rfl⟩ : ∃ k : Nat, v = k := ⟨v.toNat, by omega⟩
    have hk : k < qs.length := by omega
    obtain ⟨q, hq⟩ : ∃ q, qs[k]? = some q := ⟨_, List.getElem?_eq_getElem hk⟩
    have st1 := set_eq (i := 6) e1 (by simp [S0])
    let S1 : List Sl := [.row, .vl R, .no, .own (qs.map rowD), .own (nD1 bs), .vl (.dat x), .vl (.dat (.int (k : Nat)))]
    have tv : mBor 4 (mTst (m2 ninD (mVar 6) (mVar 4))) S1 rw1 = some (!decide (k ∈ bs), rw1) := bor_eq (rw1 := (0, 0)) (tst_eq (m2_eq (g := ninD) (m := mVar 6) (n := mVar 4) rfl rfl (nin_list k bs)))
    by_cases hkb : k ∈ bs
    · rw [decide_eq_true hkb] at tv
      obtain ⟨qs', bs', a, b, rw', e, l', b', n', m', r'⟩ := bad_go ns R F hn hn3 xs qs bs (.vl (.dat x)) (.vl (.dat (.int (k : Nat)))) rw1 h0 h50 (by omega) hb (.inr fun z => by rw [z] at hkb; cases hkb) r1
      refine ⟨qs', bs', a, b, rw', ?_, l', b', n', by rw [List.length_cons]; omega, r'⟩
      rw [forGo_step (ss1 := S0) rfl ((seq_nx st1).trans ((ifF tv).trans rfl))]
      exact e
    · rw [decide_eq_false hkb] at tv
      have hql : q.length = n := by
        have := (hb.2 k q hq)
        by_cases w : q.length = n
        · exact w
        · exact absurd (this.mp w) hkb
      have ix : ∀ rw, mIxV 3 (mVar 6) S1 rw = some (.dat (rowD q), rw) := fun rw => ixV_own (qs := qs) rfl rfl hq
      have ad : addD (.dat (rowD q)) (.dat (.tuple [.int 7])) = some (.dat (rowD (q ++ [7]))) := by
        unfold addD rowD
        simp only []
        rw [if_pos (by rw [List.length_map]; simp; omega), List.map_append]
        rfl
      have ls := list_eq (lst_eq (ds := [rowD (q.drop 1), rowD (q ++ [7])]) (cons_eq (sl_eq (fl := mSome (mC (.int 1))) (fh := mNone) (l := some 1) (h := none) (ix rw1) rfl rfl (row_drop q)) (cons_eq (m2_eq (g := addD) (n := mTup (mCons (mC (.int 7)) mNil)) (ix rw1) rfl ad) nil_eq)) rfl (show (2 : Nat) ≤ 100000 by decide))
      obtain ⟨u, rw2, e2, u0, u1, r2⟩ := draw (ns := ns) (i := 0) (ma := mCons (mC (.int 2)) mNil) (ss := S1) (rw := rw1) rfl rfl (by decide) r1
      obtain ⟨p, ep, hp⟩ : ∃ p : List Int, ixD (.dat (.list [rowD (q.drop 1), rowD (q ++ [7])])) (.dat (.int u)) = some (.dat (rowD p)) ∧ p.length ≠ n := by
        have : u = 0 ∨ u = 1 := by omega
        rcases this with rfl | rfl
        · exact ⟨q.drop 1, by unfold ixD; simp only [atI_0], by rw [List.length_drop]; omega⟩
        · exact ⟨q ++ [7], by unfold ixD; simp only [atI_1], by rw [List.length_append]; simp; omega⟩
      have st2 := setO_eq (i := 3) (mk := mVar 6) (k := k) (ds := qs.map rowD) (ss := S1) (m2_eq (g := ixD) ls e2 ep) rfl rfl (by rw [List.length_map]; exact hk)
      have es : (qs.map rowD).set k (rowD p) = (qs.set k p).map rowD := by rw [List.map_set]
      rw [es] at st2
      let S2 : List Sl := [.row, .vl R, .no, .own ((qs.set k p).map rowD), .own (nD1 bs), .vl (.dat x), .vl (.dat (.int (k : Nat)))]
      have st3 := app_eq (i := 4) (ds := nD1 bs) (d := .int (k : Nat)) (ss := S2) (m := mVar 6) (rw := rw2) rfl rfl (by rw [List.length_map]; omega)
      have e9 : nD1 bs ++ [.int (k : Nat)] = nD1 (bs ++ [k]) := by
        show bs.map _ ++ [_] = (bs ++ [k]).map _
        rw [List.map_append]
        rfl
      rw [e9] at st3
      have hb2 : Bads n (qs.set k p) (bs ++ [k]) := by
        refine ⟨fun b hb' => ?_, fun j z hj => ?_⟩
        · rw [List.length_set]
          rcases List.mem_append.mp hb' with hb' | hb'
          · exact hb.1 b hb'
          · rw [List.mem_singleton] at hb'; omega
        · by_cases hjk : k = j
          · subst hjk
            rw [List.getElem?_set_self hk] at hj
            cases hj
            exact ⟨fun _ => by simp, fun _ => hp⟩
          · rw [List.getElem?_set_ne hjk] at hj
            rw [hb.2 j z hj, List.mem_append, List.mem_singleton]
            exact ⟨.inl, fun w => w.resolve_right fun e => hjk e.symm⟩
      obtain ⟨qs', bs', a, b, rw', e, l', b', n', m', r'⟩ := bad_go ns R F hn hn3 xs (qs.set k p) (bs ++ [k]) (.vl (.dat x)) (.vl (.dat (.int (k : Nat)))) rw2 (by rw [List.length_set]; exact h0) (by rw [List.length_set]; exact h50) (by rw [List.length_append]; simp; omega) hb2 (.inr (by simp)) r2
      refine ⟨qs', bs', a, b, rw', ?_, by rw [l', List.length_set], b', n', by rw [List.length_append] at m'; simp at m'; rw [List.length_cons]; omega, r'⟩
      rw [forGo_step (ss1 := S0) rfl ((seq_nx st1).trans ((ifT tv).trans ((seq_nx st2).trans st3)))]
      exact e
end Law
/-! The law tells True. -/
namespace Law
open PySem L2 FL
theorem min_nats {bs : List Nat} (h : bs ≠ []) : ∃ j ∈ bs, (∀ b ∈ bs, j ≤ b) ∧ minD (.dat (.list (nD1 bs))) = some (.dat (.int (j : Nat))) := by
  have e : nD1 bs = (bs.map fun b : Nat => (b : Int)).map .int := by unfold nD1; rw [List.map_map]; rfl
  cases bs with
  | nil => exact absurd rfl h
  | cons b bs =>
    obtain ⟨h1, h2⟩ := minL_of (bs.map fun b : Nat => (b : Int)) (b : Int)
    have e3 : ((b : Int) :: bs.map fun b : Nat => (b : Int)) = (b :: bs).map fun b : Nat => (b : Int) := rfl
    rw [e3] at h1 h2
    obtain ⟨j, hj, ej⟩ := List.mem_map.mp h1
    refine ⟨j, hj, fun c hc => ?_, ?_⟩
    · have := h2 (c : Int) (List.mem_map.mpr ⟨c, hc, rfl⟩)
      rw [← ej] at this
      omega
    · have io : ints? (nD1 (b :: bs)) = some ((b : Int) :: bs.map fun b : Nat => (b : Int)) := by rw [e, ints_ok]; rfl
      unfold minD
      simp only [io]
      rw [e3, ← ej]
theorem none_val (ns : List Int) {ts : List Thing} (ties : List Tie) (hts : HouseOk ts) {rows : List (List Int)} (h : RowsOk ts rows) (h2 : 2 ≤ rows.length) (hl : rows.length ≤ 20) {rw : Ro} (r0 : 0 ≤ rw.1) :
    ∃ (qs : List (List Int)) (j : Nat) (rw' : Ro), F__law_none ns [.dat (rowsD rows)] rw = some (.dat (.tuple [rowsD qs, .int (j : Nat)]), rw') ∧ F_check_run [hsD ts ties, .dat (rowsD qs)] = some (.er (badR j)) ∧ 0 ≤ rw'.1 := by
  let S0 : List Sl := [.row, .vl (.dat (rowsD rows)), .no, .no, .no, .no, .no]
  obtain ⟨v, rw1, e1, v0, v1, r1⟩ := draw (ns := ns) (i := 0) (ma := mCons (mC (.int 4)) mNil) (ss := S0) (rw := rw) rfl rfl (by decide) r0
  have tv : mTst (m2 eqD (mCallR 0 (F__law_taken ns) (mCons (mC (.int 4)) mNil)) (mC (.int 3))) S0 rw = some (decide (v = 3), rw1) := tst_eq (m2_eq (g := eqD) (n := mC (.int 3)) e1 rfl (eq_bool v 3))
  by_cases z : v = 3
  · rw [decide_eq_true z] at tv
    obtain ⟨u, rw2, e2, u0, u1, r2⟩ := draw (ns := ns) (i := 0) (ma := mCons (mC (.int 2)) mNil) (ss := S0) (rw := rw1) rfl rfl (by decide) r1
    obtain ⟨k, rfl⟩ : ∃ k : Nat, u = k := ⟨u.toNat, by omega⟩
    have hk : k ≤ rows.length := by omega
    have sl : slD (.dat (rowsD rows)) none (some (k : Int)) = some (.dat (rowsD (rows.take k))) := by
      unfold slD rowsD cutD
      simp only []
      rw [HT.sIx_none, HT.sIx_nat, List.length_map, Nat.min_eq_left hk, List.drop_zero, Nat.sub_zero, List.map_take]
    have st2 := set_eq (i := 2) (sl_eq (fa := mVar 1) (fl := mNone) (l := none) (h := some (k : Int)) (ss := S0) (rw := rw1) rfl rfl (some_eq e2) sl) (by simp [S0])
    have lk : (rows.take k).length = k := by rw [List.length_take]; omega
    have ln : lenD (.dat (rowsD (rows.take k))) = some (.dat (.int (k : Nat))) := by unfold lenD rowsD; simp only [List.length_map, lk]
    refine ⟨rows.take k, k, rw2, bodyR_rt rfl (seq_rt ((ifT tv).trans ((seq_nx st2).trans (ret_eq (tup_eq (ds := [rowsD (rows.take k), .int (k : Nat)]) (cons_eq (m := mVar 2) rfl (cons_eq (m1_eq (g := lenD) (m := mVar 2) rfl ln) nil_eq)) rfl (show (2 : Nat) ≤ 100000 by decide)))))), ?_, r2⟩
    have := check_few (ts := ts) (ties := ties) (rows := rows.take k) (by rw [lk]; omega)
    rw [lk] at this
    exact this
  · rw [decide_eq_false z] at tv
    let S3 : List Sl := [.row, .vl (.dat (rowsD rows)), .no, .own (rows.map rowD), .own (nD1 []), .no, .no]
    obtain ⟨y, rw2, e2, y0, y1, r2⟩ := draw (ns := ns) (i := 0) (ma := mCons (mC (.int 2)) mNil) (ss := S3) (rw := rw1) rfl rfl (by decide) r1
    have src : mRg1 (m2 addD (mC (.int 1)) (mCallR 0 (F__law_taken ns) (mCons (mC (.int 2)) mNil))) S3 rw1 = some (rgD 0 (1 + y).toNat, rw2) := by
      unfold mRg1 bnd
      rw [m2_eq (g := addD) (m := mC (.int 1)) rfl e2 (z := .dat (.int (1 + y))) rfl]
      simp only [opt]
      rw [if_pos (by omega)]
    have rl : (rgD 0 (1 + y).toNat).length = (1 + y).toNat := by unfold rgD; rw [List.length_map, List.length_range]
    have ne : rgD 0 (1 + y).toNat ≠ [] := fun w => by rw [w] at rl; simp at rl; omega
    have hb0 : Bads ts.length rows [] := ⟨(fun b hb => by cases hb), fun k q hq => ⟨fun w => absurd (h q (List.mem_of_getElem? hq)).len w, fun w => by cases w⟩⟩
    obtain ⟨qs, bs, s5, s6, rw3, e3, l3, b3, n3, m3, r3⟩ := bad_go ns (.dat (rowsD rows)) (.dat .none) hts.l1 hts.l3 (rgD 0 (1 + y).toNat) rows [] .no .no rw2 (by omega) (by omega) (by rw [rl]; simp; omega) hb0 (.inl ne) r2
    obtain ⟨j, hj, hmin, em⟩ := min_nats n3
    have fin : sFrz 4 (sFrz 3 (sRet (mTup (mCons (mVar 3) (mCons (m1 minD (mVar 4)) mNil))))) [.row, .vl (.dat (rowsD rows)), .no, .own (qs.map rowD), .own (nD1 bs), s5, s6] rw3 = some (.rt (.dat (.tuple [rowsD qs, .int (j : Nat)])) rw3) :=
      ret_eq (ss := [.row, .vl (.dat (rowsD rows)), .no, .vl (.dat (rowsD qs)), .vl (.dat (.list (nD1 bs))), s5, s6]) (tup_eq (ds := [rowsD qs, .int (j : Nat)]) (cons_eq (m := mVar 3) rfl (cons_eq (m1_eq (g := minD) (m := mVar 4) rfl em) nil_eq)) rfl (show (2 : Nat) ≤ 100000 by decide))
    refine ⟨qs, j, rw3, bodyR_rt rfl ((seq_nx ((ifF tv).trans rfl)).trans ((seq_nx (ss1 := [.row, .vl (.dat (rowsD rows)), .no, .own (rows.map rowD), .no, .no, .no]) (rw1 := rw1) rfl).trans ((seq_nx (ss1 := S3) (rw1 := rw1) rfl).trans ((seq_nx ((for_eq src).trans e3)).trans fin)))), ?_, r3⟩
    have bl : badAt ts.length qs 0 = some (0 + j) := by
      obtain ⟨q, hq⟩ : ∃ q, qs[j]? = some q := ⟨_, List.getElem?_eq_getElem (b3.1 j hj)⟩
      refine bad_least qs 0 j ⟨q, hq, (b3.2 j q hq).mpr hj⟩ fun i q hi e => ?_
      by_cases w : q.length = ts.length
      · exact w
      · have := hmin i ((b3.2 i q e).mp w)
        omega
    rw [Nat.zero_add] at bl
    rw [check_rows (by omega) (by omega), bl]
theorem tryA_row {i j : Nat} {mb : Sx} {ss : List Sl} {rw rw1 : Ro} {k : Nat} {ds : List PyData} (h : mb ss rw = some (.er (badR k) ss rw1)) (hi : noAt ss i = true) (hij : i ≠ j) (hj : ss[j]? = some (.own ds)) (hl : ds.length < 100000) : sTryA i j 2 ("row" : Str) mb ss rw = some (.nx (ss.set j (.own (ds ++ [.int (k : Nat)]))) rw1) := by
  have lk : (badR k).fs.lookup ("row" : Str) = some (.int (k : Nat)) := rfl
  unfold sTryA
  rw [h]
  simp only []
  rw [if_pos ⟨hi, hij, by trivial⟩]
  simp only [lk, hj]
  rw [if_pos ⟨rfl, hl⟩]
abbrev rfB : Sx := sTryA 4 2 2 ("row" : Str) (sIf (mTst (m2 eqD (mVar 3) (mC (.int 0)))) (sDropX (mCallX F_passed (mCons (mVar 0) (mCons (mVar 1) mNil)))) (sDropX (mCallX F_kept (mCons (mVar 0) (mCons (mVar 1) mNil)))))
theorem refused_val {ts : List Thing} {ties : List Tie} {qs : List (List Int)} {j : Nat} (h : F_check_run [hsD ts ties, .dat (rowsD qs)] = some (.er (badR j))) : F__law_refused [hsD ts ties, .dat (rowsD qs)] = some (.dat (.list [.int (j : Nat), .int (j : Nat)])) := by
  have pe := passed_er h
  have ke := kept_er h
  let S : List PyData → Int → List Sl := fun acc w => [.vl (hsD ts ties), .vl (.dat (rowsD qs)), .own acc, .vl (.dat (.int w)), .no]
  have t : ∀ acc w rw, mTst (m2 eqD (mVar 3) (mC (.int 0))) (S acc w) rw = some (decide (w = 0), rw) := fun acc w rw => tst_eq (m2_eq (g := eqD) (m := mVar 3) (n := mC (.int 0)) rfl rfl (eq_bool w 0))
  have b0 : rfB (S [] 0) (0, 0) = some (.nx (S [.int (j : Nat)] 0) (0, 0)) :=
    tryA_row (ds := []) ((ifT (t [] 0 (0, 0))).trans (dropX_er (callX_eq (ma := mCons (mVar 0) (mCons (mVar 1) mNil)) rfl pe))) rfl (by decide) rfl (by decide)
  have b1 : rfB (S [.int (j : Nat)] 1) (0, 0) = some (.nx (S [.int (j : Nat), .int (j : Nat)] 1) (0, 0)) :=
    tryA_row (ds := [.int (j : Nat)]) ((ifF (t [.int (j : Nat)] 1 (0, 0))).trans (dropX_er (callX_eq (ma := mCons (mVar 0) (mCons (mVar 1) mNil)) rfl ke))) rfl (by decide) rfl (show (1 : Nat) < 100000 by decide)
  have go : forGo (gNm 3) rfB [.int 0, .int 1] [.vl (hsD ts ties), .vl (.dat (rowsD qs)), .own [], .no, .no] (0, 0) = some (.nx (S [.int (j : Nat), .int (j : Nat)] 1) (0, 0)) :=
    (forGo_step (ss1 := S [] 0) rfl b0).trans ((forGo_step (ss1 := S [.int (j : Nat)] 1) rfl b1).trans rfl)
  exact bodyP_rl (rw := (0, 0)) rfl ((seq_nx (ss1 := [.vl (hsD ts ties), .vl (.dat (rowsD qs)), .own [], .no, .no]) (rw1 := (0, 0)) rfl).trans ((seq_nx ((for_eq (xs := [.int 0, .int 1]) (rw1 := (0, 0)) rfl).trans go)).trans rfl))
theorem noLst_spots : ∀ r : List Spot, noLsts (r.map spD) = true
  | [] => rfl
  | s :: r => by
    rw [List.map_cons]
    unfold noLsts
    rw [noLst_spots r]
    rfl
theorem noLst_rooms : ∀ rs : List (List Spot), noLsts (rs.map rmD) = true
  | [] => rfl
  | r :: rs => by
    rw [List.map_cons]
    unfold noLsts
    rw [noLst_rooms rs]
    have : noLst (rmD r) = true := by
      show noLst (.tuple (r.map spD)) = true
      unfold noLst
      exact noLst_spots r
    rw [this]
    rfl
theorem noLst_optK (o : Option (Nat × Nat)) : noLst (optK o) = true := by
  cases o <;> rfl
theorem borL_eq {i : Nat} {m : Mx (List PyData)} {ss : List Sl} {rw rw1 : Ro} {ds : List PyData} (h : m (noRow (frz i ss)) (0, 0) = some (ds, rw1)) (hn : noLsts ds = true) : mBorL i m ss rw = some (ds, rw) := by
  unfold mBorL
  rw [h]
  simp only []
  rw [if_pos hn]
theorem borV_eq {i : Nat} {m : Mx Vl} {ss : List Sl} {rw rw1 : Ro} {d : PyData} (h : m (noRow (frz i ss)) (0, 0) = some (.dat d, rw1)) (hn : noLst d = true) : mBorV i m ss rw = some (.dat d, rw) := by
  unfold mBorV
  rw [h]
  simp only []
  rw [if_pos hn]
theorem tgt_eq {g : PyData → List Sl → Option (List Sl)} {m : Mx Vl} {ss ss1 : List Sl} {rw rw1 : Ro} {d : PyData} (h : m ss rw = some (.dat d, rw1)) (h2 : g d ss = some ss1) : sTgt g m ss rw = some (.nx ss1 rw1) := by
  unfold sTgt
  rw [h]
  simp only [h2]
theorem alike_two_ints (n : Nat) (a : Int) : F__law_alike (n + 2) [.dat (.list [.int a, .int a]), .dat (.list [.int a, .int a])] = some (.dat (.bool true)) := by
  refine alike_seq (n + 1) .list (.inr rfl) (show (2 : Nat) ≤ 100000 by decide) fun d hd => ?_
  rcases List.mem_cons.mp hd with rfl | hd
  · exact alike_int n _
  · rcases List.mem_cons.mp hd with rfl | hd
    · exact alike_int n _
    · cases hd
theorem eqvAll_same : ∀ a : List Int, PyData.eqvAll (a.map .int) (a.map .int) = true
  | [] => by simp [PyData.eqvAll]
  | x :: a => by
    rw [List.map_cons]
    unfold PyData.eqvAll
    rw [eqvAll_same a]
    simp [PyData.eqv]
theorem eqvAll_rows : ∀ a : List (List Int), PyData.eqvAll (a.map rowD) (a.map rowD) = true
  | [] => by simp [PyData.eqvAll]
  | x :: a => by
    rw [List.map_cons]
    unfold PyData.eqvAll
    rw [eqvAll_rows a]
    have e : PyData.eqv (rowD x) (rowD x) = true := by
      show PyData.eqv (.tuple (x.map .int)) (.tuple (x.map .int)) = _
      unfold PyData.eqv
      exact eqvAll_same x
    rw [e]
    rfl
theorem canLay_rows : ∀ xs : List (List Int), PyData.canLayAll0 (xs.map rowD) = true
  | [] => rfl
  | x :: xs => by
    rw [List.map_cons]
    unfold PyData.canLayAll0
    rw [canLay_rows xs]
    unfold rowD PyData.canLay0
    rw [canLay_ints]
    rfl
theorem depth_rows : ∀ xs : List (List Int), PyData.depthAll (xs.map rowD) ≤ 1
  | [] => by simp [PyData.depthAll]
  | x :: xs => by
    have := depth_rows xs
    have h := depth_ints x
    have e : PyData.depth (rowD x) ≤ 1 := by
      unfold rowD PyData.depth
      omega
    rw [List.map_cons]
    unfold PyData.depthAll
    omega
theorem shaped_rows (xs : List (List Int)) : SeqAt.shaped (rowsD xs) = true := by
  unfold SeqAt.shaped rowsD PyData.canLay0 PyData.depth
  rw [canLay_rows, Bool.true_and, decide_eq_true]
  have := depth_rows xs
  omega
theorem ne_rows {rows : List (List Int)} (h : rows ≠ []) : neD (.dat (rowsD rows)) (.dat (rowsD rows)) = some (.dat (.bool false)) := by
  cases rows with
  | nil => exact absurd rfl h
  | cons x rows =>
    have e : eqO (rowsD (x :: rows)) (rowsD (x :: rows)) = if SeqAt.shaped (rowsD (x :: rows)) = true ∧ SeqAt.shaped (rowsD (x :: rows)) = true then some (PyData.eqv (rowsD (x :: rows)) (rowsD (x :: rows))) else none := rfl
    rw [if_pos ⟨shaped_rows _, shaped_rows _⟩] at e
    have e2 : PyData.eqv (rowsD (x :: rows)) (rowsD (x :: rows)) = true := by
      show PyData.eqv (.list ((x :: rows).map rowD)) (.list ((x :: rows).map rowD)) = _
      unfold PyData.eqv
      exact eqvAll_rows _
    rw [e2] at e
    unfold neD
    simp only [e]
    rfl
abbrev turnU (ns : List Int) : Sx := sSeq (sSet 6 (mCallR 1 (F__law_run ns) (mCons (mVar 2) (mCons (mVar 3) mNil)))) (sSeq (sSet 7 (mCall F__law_passed (mCons (mVar 2) (mCons (mVar 6) mNil)))) (sSeq (sOwn 8 (bnd (mVar 6) fun x => opt (lstD x))) (sSeq (sOwn 9 (mBorL 8 (mCallL F_passed_L (mCons (mVar 4) (mCons (mVar 8) mNil))))) (sSeq (sSet 10 (mBorV 8 (mOk (mCallX F_kept (mCons (mVar 4) (mCons (mVar 8) mNil)))))) (sSeq (sIf (mBor 8 (mBor 9 (mOr (mNot (mTst (mCall (F__law_alike 5) (mCons (mVar 9) (mCons (mVar 7) mNil))))) (mOr (mNot (mTst (mCall (F__law_alike 5) (mCons (mVar 10) (mCons (mCall F__law_kept (mCons (mVar 3) (mCons (mVar 7) mNil))) mNil))))) (mTst (m2 neD (mVar 8) (mVar 6))))))) (sRet (mC (.bool false))) sNx) (sSeq (sClr 9) (sSeq (sClr 8) (sSeq (sTgt (gTp 2 (gsCons (gNm 11) (gsCons (gNm 12) gsNil))) (mCallR 1 (F__law_none ns) (mCons (mVar 6) mNil))) (sSeq (sIf (mNot (mTst (mCall (F__law_alike 5) (mCons (mCall F__law_refused (mCons (mVar 4) (mCons (mVar 11) mNil))) (mCons (mList (mLst (mCons (mVar 12) (mCons (mVar 12) mNil)))) mNil))))) (sRet (mC (.bool false))) sNx) (sIf (mOr (mNot (mTst (mCall (F__law_alike 5) (mCons (mList (mCallL F_passed_L (mCons (mVar 4) (mCons (mVar 6) mNil)))) (mCons (mVar 7) mNil))))) (mNot (mTst (mCall (F__law_alike 5) (mCons (mOk (mCallX F_kept (mCons (mVar 4) (mCons (mVar 6) mNil)))) (mCons (mVar 10) mNil)))))) (sRet (mC (.bool false))) sNx))))))))))
theorem turns_go (ns : List Int) {ts : List Thing} {ties : List Tie} (h : HouseOk ts) (ht : ∀ t ∈ ties, TieOk ts t) (hl : ties.length ≤ 1000) (xs : List PyData) : ∀ (s5 s6 s7 s8 s9 s10 s11 s12 : Sl) (rw : Ro), 0 ≤ rw.1 →
    ∃ (s5' s6' s7' s8' s9' s10' s11' s12' : Sl) (rw' : Ro), forGo (gNm 5) (turnU ns) xs [.no, .row, .vl (.dat (thsD ts)), .vl (.dat (tisD ties)), .vl (hsD ts ties), s5, s6, s7, s8, s9, s10, s11, s12] rw = some (.nx [.no, .row, .vl (.dat (thsD ts)), .vl (.dat (tisD ties)), .vl (hsD ts ties), s5', s6', s7', s8', s9', s10', s11', s12'] rw') ∧ 0 ≤ rw'.1 := by
  induction xs with
  | nil => intro s5 s6 s7 s8 s9 s10 s11 s12 rw h; exact ⟨s5, s6, s7, s8, s9, s10, s11, s12, rw, rfl, h⟩
  | cons x xs ih =>
    intro s5 s6 s7 s8 s9 s10 s11 s12 rw h0
    let T : Sl := .vl (.dat (thsD ts))
    let Ti : Sl := .vl (.dat (tisD ties))
    let Hs : Sl := .vl (hsD ts ties)
    obtain ⟨rows, rw1, e1, hr, h2, h20, r1⟩ := run_val ns h ht hl h0
    have st1 := set_eq (i := 6) (ss := [.no, .row, T, Ti, Hs, .vl (.dat x), s6, s7, s8, s9, s10, s11, s12]) (rw := rw) (callR_eq (i := 1) (ma := mCons (mVar 2) (mCons (mVar 3) mNil)) rfl rfl e1) (by simp)
    let R : Sl := .vl (.dat (rowsD rows))
    let Pv : PyData := .list ((passB ts rows).map rmD)
    have st2 := set_eq (i := 7) (ss := [.no, .row, T, Ti, Hs, .vl (.dat x), R, s7, s8, s9, s10, s11, s12]) (rw := rw1) (call_eq (ma := mCons (mVar 2) (mCons (mVar 6) mNil)) rfl (lpassed_val h hr h2 h20)) (by simp)
    have st3 : sOwn 8 (bnd (mVar 6) fun x => opt (lstD x)) [.no, .row, T, Ti, Hs, .vl (.dat x), R, .vl (.dat Pv), s8, s9, s10, s11, s12] rw1 = some (.nx [.no, .row, T, Ti, Hs, .vl (.dat x), R, .vl (.dat Pv), .own (rows.map rowD), s9, s10, s11, s12] rw1) := own_eq rfl (by simp)
    let S4 : List Sl := [.no, .row, T, Ti, Hs, .vl (.dat x), R, .vl (.dat Pv), .own (rows.map rowD), s9, s10, s11, s12]
    have pl := passB_len h hr h20
    have po := pass_ok h hr
    have nr : neD (.dat (rowsD rows)) (.dat (rowsD rows)) = some (.dat (.bool false)) := ne_rows (by intro z; rw [z] at h2; simp at h2)
    have al := alike_rooms 1 (rs := passB ts rows) (by omega) fun r hr => by have := (po r hr).1; have := h.l3; omega
    have pv := passedL_val (ties := ties) h hr h2 h20
    have kv := kept_val h ht hr h2 h20
    have lk := lkept_val ht hl po (by omega)
    generalize firstK ties (passB ts rows) 0 = o at kv lk
    have st4 := own_eq (i := 9) (ss := S4) (rw := rw1) (borL_eq (i := 8) (callL_eq (ma := mCons (mVar 4) (mCons (mVar 8) mNil)) rfl pv) (noLst_rooms _)) (by simp [S4])
    let S5 : List Sl := [.no, .row, T, Ti, Hs, .vl (.dat x), R, .vl (.dat Pv), .own (rows.map rowD), .own ((passB ts rows).map rmD), s10, s11, s12]
    have st5 := set_eq (i := 10) (ss := S5) (rw := rw1) (borV_eq (i := 8) (ok_eq (callX_eq (ma := mCons (mVar 4) (mCons (mVar 8) mNil)) rfl kv)) (noLst_optK o)) (by simp [S5])
    let S6 : List Sl := [.no, .row, T, Ti, Hs, .vl (.dat x), R, .vl (.dat Pv), .own (rows.map rowD), .own ((passB ts rows).map rmD), .vl (.dat (optK o)), s11, s12]
    have t6 : mBor 8 (mBor 9 (mOr (mNot (mTst (mCall (F__law_alike 5) (mCons (mVar 9) (mCons (mVar 7) mNil))))) (mOr (mNot (mTst (mCall (F__law_alike 5) (mCons (mVar 10) (mCons (mCall F__law_kept (mCons (mVar 3) (mCons (mVar 7) mNil))) mNil))))) (mTst (m2 neD (mVar 8) (mVar 6)))))) S6 rw1 = some (false, rw1) :=
      bor_eq (rw1 := (0, 0)) (bor_eq (rw1 := (0, 0)) (or_eq (not_eq (b := true) (tst_eq (call_eq (cons_eq (m := mVar 9) rfl (cons_eq (m := mVar 7) rfl nil_eq)) al))) (or_eq (not_eq (b := true) (tst_eq (call_eq (cons_eq (m := mVar 10) rfl (cons_eq (call_eq (cons_eq (m := mVar 3) rfl (cons_eq (m := mVar 7) rfl nil_eq)) lk) nil_eq)) (alike_optK 3 o)))) (tst_eq (m2_eq (g := neD) (m := mVar 8) (n := mVar 6) rfl rfl nr)))))
    have st7 : sClr 9 S6 rw1 = some (.nx [.no, .row, T, Ti, Hs, .vl (.dat x), R, .vl (.dat Pv), .own (rows.map rowD), .own [], .vl (.dat (optK o)), s11, s12] rw1) := rfl
    have st8 : sClr 8 [.no, .row, T, Ti, Hs, .vl (.dat x), R, .vl (.dat Pv), .own (rows.map rowD), .own [], .vl (.dat (optK o)), s11, s12] rw1 = some (.nx [.no, .row, T, Ti, Hs, .vl (.dat x), R, .vl (.dat Pv), .own [], .own [], .vl (.dat (optK o)), s11, s12] rw1) := rfl
    obtain ⟨qs, j, rw2, e2, hc, r2⟩ := none_val ns ties h hr h2 h20 r1
    have st9 : sTgt (gTp 2 (gsCons (gNm 11) (gsCons (gNm 12) gsNil))) (mCallR 1 (F__law_none ns) (mCons (mVar 6) mNil)) [.no, .row, T, Ti, Hs, .vl (.dat x), R, .vl (.dat Pv), .own [], .own [], .vl (.dat (optK o)), s11, s12] rw1 = some (.nx [.no, .row, T, Ti, Hs, .vl (.dat x), R, .vl (.dat Pv), .own [], .own [], .vl (.dat (optK o)), .vl (.dat (rowsD qs)), .vl (.dat (.int (j : Nat)))] rw2) :=
      tgt_eq (callR_eq (i := 1) (ma := mCons (mVar 6) mNil) rfl rfl e2) rfl
    let S9 : List Sl := [.no, .row, T, Ti, Hs, .vl (.dat x), R, .vl (.dat Pv), .own [], .own [], .vl (.dat (optK o)), .vl (.dat (rowsD qs)), .vl (.dat (.int (j : Nat)))]
    have t10 : mNot (mTst (mCall (F__law_alike 5) (mCons (mCall F__law_refused (mCons (mVar 4) (mCons (mVar 11) mNil))) (mCons (mList (mLst (mCons (mVar 12) (mCons (mVar 12) mNil)))) mNil)))) S9 rw2 = some (false, rw2) :=
      not_eq (b := true) (tst_eq (call_eq (cons_eq (call_eq (cons_eq (m := mVar 4) rfl (cons_eq (m := mVar 11) rfl nil_eq)) (refused_val hc)) (cons_eq (m := mList (mLst (mCons (mVar 12) (mCons (mVar 12) mNil)))) rfl nil_eq)) (alike_two_ints 3 _)))
    have t11 : mOr (mNot (mTst (mCall (F__law_alike 5) (mCons (mList (mCallL F_passed_L (mCons (mVar 4) (mCons (mVar 6) mNil)))) (mCons (mVar 7) mNil))))) (mNot (mTst (mCall (F__law_alike 5) (mCons (mOk (mCallX F_kept (mCons (mVar 4) (mCons (mVar 6) mNil)))) (mCons (mVar 10) mNil))))) S9 rw2 = some (false, rw2) :=
      or_eq (not_eq (b := true) (tst_eq (call_eq (cons_eq (list_eq (callL_eq (cons_eq (m := mVar 4) rfl (cons_eq (m := mVar 6) rfl nil_eq)) pv)) (cons_eq (m := mVar 7) rfl nil_eq)) al))) (not_eq (b := true) (tst_eq (call_eq (cons_eq (ok_eq (callX_eq (cons_eq (m := mVar 4) rfl (cons_eq (m := mVar 6) rfl nil_eq)) kv)) (cons_eq (m := mVar 10) rfl nil_eq)) (alike_optK 3 o))))
    obtain ⟨a5, a6, a7, a8, a9, a10, a11, a12, rw', e, r'⟩ := ih (.vl (.dat x)) R (.vl (.dat Pv)) (.own []) (.own []) (.vl (.dat (optK o))) (.vl (.dat (rowsD qs))) (.vl (.dat (.int (j : Nat)))) rw2 r2
    refine ⟨a5, a6, a7, a8, a9, a10, a11, a12, rw', ?_, r'⟩
    rw [forGo_step (ss1 := [.no, .row, T, Ti, Hs, .vl (.dat x), s6, s7, s8, s9, s10, s11, s12]) rfl ((seq_nx st1).trans ((seq_nx st2).trans ((seq_nx st3).trans ((seq_nx st4).trans ((seq_nx st5).trans ((seq_nx ((ifF t6).trans rfl)).trans ((seq_nx st7).trans ((seq_nx st8).trans ((seq_nx st9).trans ((seq_nx ((ifF t10).trans rfl)).trans ((ifF t11).trans rfl)))))))))))]
    exact e
theorem holds (ns : List Int) (_ : ns.length ≤ 63) : F_law ns = some (.dat (.bool true)) := by
  obtain ⟨ts, rw1, e1, hts, _, r1⟩ := things_val ns (most := 3) (long := 3) (by decide) (by decide) (by decide) (by decide) (rw := (0, 0)) (Int.le_refl _)
  have hm := hts.marked
  obtain ⟨ties, rw2, e2, ht, hl, r2⟩ := ties_val ns hts.l1 hts.l3 hm (most := 6) (by decide) (by decide) r1
  have hl6 : ties.length ≤ 6 := by omega
  have st1 := set_eq (i := 2) (ss := [.no, .row, .no, .no, .no, .no, .no, .no, .no, .no, .no, .no, .no]) (rw := (0, 0)) (callR_eq (i := 1) (ma := mCons (mC (.int 3)) (mCons (mC (.int 3)) mNil)) rfl rfl e1) (by simp)
  have st2 := set_eq (i := 3) (ss := [.no, .row, .vl (.dat (thsD ts)), .no, .no, .no, .no, .no, .no, .no, .no, .no, .no]) (rw := rw1) (callR_eq (i := 1) (ma := mCons (mVar 2) (mCons (mC (.int 6)) mNil)) rfl rfl e2) (by simp)
  have st3 := set_eq (i := 4) (ss := [.no, .row, .vl (.dat (thsD ts)), .vl (.dat (tisD ties)), .no, .no, .no, .no, .no, .no, .no, .no, .no]) (rw := rw2) (make_eq (F1 := F_check_things) (F2 := F_check_ties) (ma := mCons (m1 listD (mVar 2)) (mCons (m1 listD (mVar 3)) mNil)) (ts := ts.map thD) (ties := ties.map tieD) (rw1 := rw2) rfl (check_things_val hts) (check_ties_val ht hl6)) (by simp)
  obtain ⟨a5, a6, a7, a8, a9, a10, a11, a12, rw3, e4, r4⟩ := turns_go ns hts ht (by omega) (rgD 0 4) .no .no .no .no .no .no .no .no rw2 r2
  have fin : m_law ns (ssT 13) (0, 0) = some (.rt (.dat (.bool true)) rw3) :=
    (seq_nx st1).trans ((seq_nx st2).trans ((seq_nx st3).trans ((seq_nx ((for_eq (xs := rgD 0 4) (rw1 := rw2) rfl).trans e4)).trans rfl)))
  unfold F_law bodyT
  rw [fin]
end Law
section
open PySem PySem.W PyProof.Rows
set_option maxHeartbeats 0
open_top hd for PySem.Challenge.rw_trendhouse_k08_runs_looked_through
end
open PySem PySem.W PyProof.Rows in
set_option maxRecDepth 100000 in
set_option maxHeartbeats 0 in
theorem PySem.Challenge.cw_trendhouse_k08_runs_looked_through_holds : PySem.Challenge.rw_trendhouse_k08_runs_looked_through.Holds := by
  refine hd ?_
  k_fill
  refine L2.walk_of (l := PySem.Challenge.rw_trendhouse_k08_runs_looked_through) (n := 63) (k := 9) (x := "_law_script") (CX := fun _ => L2.CX0) (sp := fun w => FL.spT _ Law.F_law) rfl (by decide) rfl ⟨rfl, by decide, by decide⟩ (fun w h Y => PySem.W.kIn_of Y) ?F (fun _ _ a ns hl _ hS => ⟨a, ns, rfl, hS, Law.holds ns hl, fun _ => rfl⟩) (fun _ _ _ _ _ z => z)
  case F =>
    intro w mg fa h KX G hmg
    refine' Law.all_mk KX G hmg ?a1 ?l1 ?c1 ?k1 ?a2 ?l2 ?c2 ?k2 ?a3 ?l3 ?c3 ?k3 ?a4 ?l4 ?c4 ?k4 ?a5 ?l5 ?c5 ?k5 ?a6 ?l6 ?c6 ?k6 ?a7 ?l7 ?c7 ?k7 ?a8 ?l8 ?c8 ?k8 ?a9 ?l9 ?c9 ?k9 ?a10 ?l10 ?c10 ?k10 ?a11 ?l11 ?c11 ?k11 ?a12 ?l12 ?c12 ?k12 ?a13 ?l13 ?c13 ?k13 ?a14 ?l14 ?c14 ?k14 ?a15 ?l15 ?c15 ?k15 ?a16 ?l16 ?c16 ?k16 ?a17 ?l17 ?c17 ?k17 ?a18 ?l18 ?c18 ?k18 ?a19 ?l19 ?c19 ?k19 ?a20 ?l20 ?c20 ?k20 ?a21 ?l21 ?c21 ?k21 ?a22 ?l22 ?c22 ?k22 ?a23 ?l23 ?c23 ?k23 ?a24 ?l24 ?c24 ?k24 ?a25 ?l25 ?c25 ?k25 ?a26 ?l26 ?c26 ?k26 ?a27 ?l27 ?c27 ?k27 ?a28 ?l28 ?c28 ?k28 ?a29 ?l29 ?c29 ?k29 ?a30 ?l30 ?c30 ?k30 ?a31 ?l31 ?c31 ?k31 ?a32 ?l32 ?c32 ?k32 ?a33 ?l33 ?c33 ?k33 ?a34 ?l34 ?c34 ?k34 ?a35 ?l35 ?c35 ?k35 ?a36 ?l36 ?c36 ?k36 ?a37 ?l37 ?c37 ?k37 ?a38 ?l38 ?c38 ?k38 ?aC ?m39 ?i39 ?l39 ?c39 ?k39 ?m40 ?i40 ?l40 ?c40 ?k40 ?m41 ?i41 ?l41 ?c41 ?k41 ?pg ?hd ?po ?sa ?mk ?kc ?nT ?nI ?z_ValueError ?z_len ?z_tuple ?z_list ?z_int ?z_abs ?z_all ?z_max ?z_min ?z_range ?z_enumerate ?z_zip ?z_isinstance ?z_bool ?z_str ?z_sorted ?z_set ?g_FEWEST_ROWS ?g_LETTERS ?g_LONGEST_NAME ?g_MOST_THINGS ?g_MOST_MARKS ?g_MOST_TIES ?g_LOWEST_MARK ?g_HIGHEST_MARK ?g_LEAST_GAP ?g_THINGS_NAMED ?h_THINGS_NAMED ?e_THINGS_NAMED_ ?s_THINGS_NAMED ?g_MARK_WORDS ?h_MARK_WORDS ?v_MARK_WORDS ?w_MARK_WORDS ?g0 ?g1 ?g2 ?g3 ?gT ?xT1 ?xT2 ?xT3 ?z2T ?y2_1 ?y2_2 ?y2_3 ?y2_4 ?n2r ?y2_5 ?y6 ?y7 ?y2_8 ?n2_0 ?u0 ?v0 ?w2_0 ?n2_1 ?u1 ?v1 ?w2_1 ?n2_3 ?u3 ?v3 ?w2_3 ?mE2 ?iE2 ?lE2 ?cdE2 ?coE2_ ?fvE2_ ?fiE2 ?ceE2 ?suE2 ?oxE2 ?rvE2 ?saE2 ?keE2 ?wVE2 ?mrE2 ?hfE20 ?v2 ?anyE ?msE ?zsE
    (case a1 => k_is)
    (case l1 => k_is)
    (case c1 => k_is)
    (case k1 => k_is)
    (case a2 => k_is)
    (case l2 => k_is)
    (case c2 => k_is)
    (case k2 => k_is)
    (case a3 => k_is)
    (case l3 => k_is)
    (case c3 => k_is)
    (case k3 => k_is)
    (case a4 => k_is)
    (case l4 => k_is)
    (case c4 => k_is)
    (case k4 => k_is)
    (case a5 => k_is)
    (case l5 => k_is)
    (case c5 => k_is)
    (case k5 => k_is)
    (case a6 => k_is)
    (case l6 => k_is)
    (case c6 => k_is)
    (case k6 => k_is)
    (case a7 => k_is)
    (case l7 => k_is)
    (case c7 => k_is)
    (case k7 => k_is)
    (case a8 => k_is)
    (case l8 => k_is)
    (case c8 => k_is)
    (case k8 => k_is)
    (case a9 => k_is)
    (case l9 => k_is)
    (case c9 => k_is)
    (case k9 => k_is)
    (case a10 => k_is)
    (case l10 => k_is)
    (case c10 => k_is)
    (case k10 => k_is)
    (case a11 => k_is)
    (case l11 => k_is)
    (case c11 => k_is)
    (case k11 => k_is)
    (case a12 => k_is)
    (case l12 => k_is)
    (case c12 => k_is)
    (case k12 => k_is)
    (case a13 => k_is)
    (case l13 => k_is)
    (case c13 => k_is)
    (case k13 => k_is)
    (case a14 => k_is)
    (case l14 => k_is)
    (case c14 => k_is)
    (case k14 => k_is)
    (case a15 => k_is)
    (case l15 => k_is)
    (case c15 => k_is)
    (case k15 => k_is)
    (case a16 => k_is)
    (case l16 => k_is)
    (case c16 => k_is)
    (case k16 => k_is)
    (case a17 => k_is)
    (case l17 => k_is)
    (case c17 => k_is)
    (case k17 => k_is)
    (case a18 => k_is)
    (case l18 => k_is)
    (case c18 => k_is)
    (case k18 => k_is)
    (case a19 => k_is)
    (case l19 => k_is)
    (case c19 => k_is)
    (case k19 => k_is)
    (case a20 => k_is)
    (case l20 => k_is)
    (case c20 => k_is)
    (case k20 => k_is)
    (case a21 => k_is)
    (case l21 => k_is)
    (case c21 => k_is)
    (case k21 => k_is)
    (case a22 => k_is)
    (case l22 => k_is)
    (case c22 => k_is)
    (case k22 => k_is)
    (case a23 => k_is)
    (case l23 => k_is)
    (case c23 => k_is)
    (case k23 => k_is)
    (case a24 => k_is)
    (case l24 => k_is)
    (case c24 => k_is)
    (case k24 => k_is)
    (case a25 => k_is)
    (case l25 => k_is)
    (case c25 => k_is)
    (case k25 => k_is)
    (case a26 => k_is)
    (case l26 => k_is)
    (case c26 => k_is)
    (case k26 => k_is)
    (case a27 => k_is)
    (case l27 => k_is)
    (case c27 => k_is)
    (case k27 => k_is)
    (case a28 => k_is)
    (case l28 => k_is)
    (case c28 => k_is)
    (case k28 => k_is)
    (case a29 => k_is)
    (case l29 => k_is)
    (case c29 => k_is)
    (case k29 => k_is)
    (case a30 => k_is)
    (case l30 => k_is)
    (case c30 => k_is)
    (case k30 => k_is)
    (case a31 => k_is)
    (case l31 => k_is)
    (case c31 => k_is)
    (case k31 => k_is)
    (case a32 => k_is)
    (case l32 => k_is)
    (case c32 => k_is)
    (case k32 => k_is)
    (case a33 => k_is)
    (case l33 => k_is)
    (case c33 => k_is)
    (case k33 => k_is)
    (case a34 => k_is)
    (case l34 => k_is)
    (case c34 => k_is)
    (case k34 => k_is)
    (case a35 => k_is)
    (case l35 => k_is)
    (case c35 => k_is)
    (case k35 => k_is)
    (case a36 => k_is)
    (case l36 => k_is)
    (case c36 => k_is)
    (case k36 => k_is)
    (case a37 => k_is)
    (case l37 => k_is)
    (case c37 => k_is)
    (case k37 => k_is)
    (case a38 => k_is)
    (case l38 => k_is)
    (case c38 => k_is)
    (case k38 => k_is)
    (case aC => k_is)
    (case m39 => k_is)
    (case i39 => k_is)
    (case l39 => k_is)
    (case c39 => k_is)
    (case k39 => k_is)
    (case m40 => k_is)
    (case i40 => k_is)
    (case l40 => k_is)
    (case c40 => k_is)
    (case k40 => k_is)
    (case m41 => k_is)
    (case i41 => k_is)
    (case l41 => k_is)
    (case c41 => k_is)
    (case k41 => k_is)
    (case pg => k_is)
    (case hd => k_is)
    (case po => k_is)
    (case sa => k_is)
    (case mk => k_is)
    (case kc => k_is)
    (case nT => k_is)
    (case nI => k_is)
    (case z_ValueError => k_is)
    (case z_len => k_is)
    (case z_tuple => k_is)
    (case z_list => k_is)
    (case z_int => k_is)
    (case z_abs => k_is)
    (case z_all => k_is)
    (case z_max => k_is)
    (case z_min => k_is)
    (case z_range => k_is)
    (case z_enumerate => k_is)
    (case z_zip => k_is)
    (case z_isinstance => k_is)
    (case z_bool => k_is)
    (case z_str => k_is)
    (case z_sorted => k_is)
    (case z_set => k_is)
    (case g_FEWEST_ROWS => k_is)
    (case g_LETTERS => k_is)
    (case g_LONGEST_NAME => k_is)
    (case g_MOST_THINGS => k_is)
    (case g_MOST_MARKS => k_is)
    (case g_MOST_TIES => k_is)
    (case g_LOWEST_MARK => k_is)
    (case g_HIGHEST_MARK => k_is)
    (case g_LEAST_GAP => k_is)
    (case g_THINGS_NAMED => k_is)
    (case h_THINGS_NAMED => k_is)
    (case e_THINGS_NAMED_ => repeat constructor)
    (case s_THINGS_NAMED => first | rfl | decide)
    (case g_MARK_WORDS => k_is)
    (case h_MARK_WORDS => k_is)
    (case v_MARK_WORDS => exact (.cons ⟨_, rfl⟩ (.cons ⟨_, rfl⟩ (.cons ⟨_, rfl⟩ .nil))))
    (case w_MARK_WORDS => decide)
    (case g0 => k_is)
    (case g1 => k_is)
    (case g2 => k_is)
    (case g3 => k_is)
    (case gT => k_is)
    (case xT1 => k_is)
    (case xT2 => k_is)
    (case xT3 => k_is)
    (case z2T => k_is)
    (case y2_1 => k_is)
    (case y2_2 => k_is)
    (case y2_3 => k_is)
    (case y2_4 => k_is)
    (case n2r => k_is)
    (case y2_5 => k_is)
    (case y6 => k_is)
    (case y7 => k_is)
    (case y2_8 => k_is)
    (case n2_0 => first | rfl | decide)
    (case u0 => k_is)
    (case v0 => k_is)
    (case w2_0 => k_is)
    (case n2_1 => first | rfl | decide)
    (case u1 => k_is)
    (case v1 => k_is)
    (case w2_1 => k_is)
    (case n2_3 => first | rfl | decide)
    (case u3 => k_is)
    (case v3 => k_is)
    (case w2_3 => k_is)
    (case mE2 => k_is)
    (case iE2 => k_is)
    (case lE2 => k_is)
    (case cdE2 => k_is)
    (case coE2_ => k_is)
    (case fvE2_ => rfl)
    (case fiE2 => first | rfl | decide +kernel)
    (case ceE2 => k_is)
    (case suE2 => ks_is)
    (case oxE2 => k_is)
    (case rvE2 => rfl)
    (case saE2 => k_is)
    (case keE2 => k_is)
    (case wVE2 => k_is)
    (case mrE2 => k_is)
    (case hfE20 => k_is)
    (case v2 => k_is)
    (case anyE => k_is)
    (case msE => first | rfl | decide +kernel)
    (case zsE => k_is)
