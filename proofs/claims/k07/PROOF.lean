import PyProof.Rows.All
import Wide.All
import OpenK.AllK
import Wide.FinOn
import HandS.ForMost
import HandS.WordsExc
import HandS.Deep
import HandS.TupAny
import HandS.IsInst
import HandS.SortInts
import HandS.Walk
import HandS.Zip
import HandS.TryOnly
import HandS.More
import HandS.FStr
import HandS.RaiseMore
import HandS.ExcIs
import HandS.ExcField
import HandS.TupSets
import HandS.SortRule
import KE.GoesEnum
import HandS.SetFor
import HandS.Strs
import HandS.Dict
import KE.KeyNested
import KE.SortData
import KE.KDictSum
import KE.KDictWalk
import HandS.Rev
import KE.KDictList
import PySem.Challenge.RW_trendhouse_k07_whole_more_ties_never_let
set_option Elab.async false
set_option linter.all false
set_option maxRecDepth 100000
set_option maxHeartbeats 8000000
set_option autoImplicit false
/-! A layer of my own over the hand layer: a def's body read as a function of plain data (PyData) in Option, with one list that is handed on (the row) and local lists that grow (own). -/
namespace FL
open PySem L2
abbrev St := L2.St
abbrev Hp := L2.Hp

/-! ### heaps: what is hidden, what is kept -/
theorem sqT_mono {K : PySem.W.Frag} {H H' : Hp} {a : Addr} {xs : List V} (e : Same H H') (h : SqT K H a xs) : SqT K H' a xs := by
  rcases h with (h | ⟨o, h⟩) | h
  · exact .inl (.inl (e _ _ h))
  · exact .inl (.inr ⟨o, e _ _ h⟩)
  · exact .inr h
mutual
/-- v is the data d: lists are tracked ones -/
inductive DR (K : PySem.W.Frag) (H : Hp) : V → PyData → Prop
  | non : DR K H .non .none
  | bl (b : Bool) : DR K H (.bl b) (.bool b)
  | int (i : Int) : DR K H (.int i) (.int i)
  | str (x : Str) : DR K H (.str x) (.str x)
  | lst {a : Addr} {xs : List V} {ds : List PyData} : H a = some (.lst xs) → DRAll K H xs ds → DR K H (.ref a) (.list ds)
  | tup {a : Addr} {xs : List V} {ds : List PyData} : SqT K H a xs → DRAll K H xs ds → DR K H (.ref a) (.tuple ds)
inductive DRAll (K : PySem.W.Frag) (H : Hp) : List V → List PyData → Prop
  | nil : DRAll K H [] []
  | cons {v : V} {vs : List V} {d : PyData} {ds : List PyData} : DR K H v d → DRAll K H vs ds → DRAll K H (v :: vs) (d :: ds)
end
mutual
theorem dr_dp {K : PySem.W.Frag} {H : Hp} : ∀ (d : PyData) (v : V), DR K H v d → Dp K H v d
  | .none, _, h => by cases h; exact .non
  | .bool b, _, h => by cases h; exact .bl b
  | .int i, _, h => by cases h; exact .int i
  | .str x, _, h => by cases h; exact .str x
  | .list ds, _, h => by
    cases h with
    | lst a b => exact .lst (SqL.of a) (drAll_dp ds _ b)
  | .tuple ds, _, h => by
    cases h with
    | tup a b => exact .tup a (drAll_dp ds _ b)
  | .dict _, _, h => by cases h
theorem drAll_dp {K : PySem.W.Frag} {H : Hp} : ∀ (ds : List PyData) (vs : List V), DRAll K H vs ds → DpAll K H vs ds
  | [], _, h => by cases h; exact .nil
  | d :: ds, _, h => by
    cases h with
    | cons h1 h2 => exact .cons (dr_dp d _ h1) (drAll_dp ds _ h2)
end
mutual
theorem dr_mono {K : PySem.W.Frag} {H H' : Hp} (e : Same H H') : ∀ (d : PyData) (v : V), DR K H v d → DR K H' v d
  | .none, _, h => by cases h; exact .non
  | .bool b, _, h => by cases h; exact .bl b
  | .int i, _, h => by cases h; exact .int i
  | .str x, _, h => by cases h; exact .str x
  | .list ds, _, h => by
    cases h with
    | lst a b => exact .lst (e _ _ a) (drAll_mono e ds _ b)
  | .tuple ds, _, h => by
    cases h with
    | tup a b => exact .tup (sqT_mono e a) (drAll_mono e ds _ b)
  | .dict _, _, h => by cases h
theorem drAll_mono {K : PySem.W.Frag} {H H' : Hp} (e : Same H H') : ∀ (ds : List PyData) (vs : List V), DRAll K H vs ds → DRAll K H' vs ds
  | [], _, h => by cases h; exact .nil
  | d :: ds, _, h => by
    cases h with
    | cons h1 h2 => exact .cons (dr_mono e d _ h1) (drAll_mono e ds _ h2)
end
theorem DRAll.length {K : PySem.W.Frag} {H : Hp} : ∀ {ds : List PyData} {vs : List V}, DRAll K H vs ds → vs.length = ds.length
  | [], _, h => by cases h; rfl
  | d :: ds, _, h => by
    cases h with
    | cons h1 h2 => simp [DRAll.length h2]
theorem DRAll.get {K : PySem.W.Frag} {H : Hp} : ∀ {ds : List PyData} {vs : List V} {i : Nat} {d : PyData}, DRAll K H vs ds → ds[i]? = some d → ∃ v, vs[i]? = some v ∧ DR K H v d
  | [], _, i, d, h, e => by simp at e
  | d :: ds, _, 0, d', h, e => by
    cases h with
    | cons h1 h2 =>
      have e' : d = d' := by simpa using e
      subst e'
      exact ⟨_, rfl, h1⟩
  | d :: ds, _, i + 1, d', h, e => by
    cases h with
    | cons h1 h2 =>
      obtain ⟨v, e1, e2⟩ := DRAll.get (i := i) h2 (by simpa using e)
      exact ⟨v, by simpa using e1, e2⟩
theorem DRAll.append {K : PySem.W.Frag} {H : Hp} : ∀ {ds es : List PyData} {vs us : List V}, DRAll K H vs ds → DRAll K H us es → DRAll K H (vs ++ us) (ds ++ es)
  | [], _, _, _, h, g => by cases h; exact g
  | d :: ds, _, _, _, h, g => by
    cases h with
    | cons h1 h2 => exact .cons h1 (DRAll.append h2 g)
theorem DRAll.drop {K : PySem.W.Frag} {H : Hp} : ∀ (n : Nat) {ds : List PyData} {vs : List V}, DRAll K H vs ds → DRAll K H (vs.drop n) (ds.drop n)
  | 0, _, _, h => h
  | n + 1, [], _, h => by cases h; exact .nil
  | n + 1, d :: ds, _, h => by
    cases h with
    | cons h1 h2 => exact DRAll.drop n h2
theorem DRAll.take {K : PySem.W.Frag} {H : Hp} : ∀ (n : Nat) {ds : List PyData} {vs : List V}, DRAll K H vs ds → DRAll K H (vs.take n) (ds.take n)
  | 0, _, _, h => by simp; exact .nil
  | n + 1, [], _, h => by cases h; exact .nil
  | n + 1, d :: ds, _, h => by
    cases h with
    | cons h1 h2 => exact .cons h1 (DRAll.take n h2)
theorem DRAll.set {K : PySem.W.Frag} {H : Hp} : ∀ (n : Nat) {ds : List PyData} {vs : List V} {d : PyData} {v : V}, DRAll K H vs ds → DR K H v d → DRAll K H (vs.set n v) (ds.set n d)
  | _, [], _, _, _, h, _ => by cases h; exact .nil
  | 0, d :: ds, _, _, _, h, g => by
    cases h with
    | cons h1 h2 => exact .cons g h2
  | n + 1, d :: ds, _, _, _, h, g => by
    cases h with
    | cons h1 h2 => exact .cons h1 (DRAll.set n h2 g)
theorem DRAll.replicate {K : PySem.W.Frag} {H : Hp} {d : PyData} {v : V} (h : DR K H v d) : ∀ n, DRAll K H (List.replicate n v) (List.replicate n d)
  | 0 => .nil
  | n + 1 => .cons h (DRAll.replicate h n)
theorem DRAll.reverse {K : PySem.W.Frag} {H : Hp} : ∀ {ds : List PyData} {vs : List V}, DRAll K H vs ds → DRAll K H vs.reverse ds.reverse
  | [], _, h => by cases h; exact .nil
  | d :: ds, _, h => by
    cases h with
    | cons h1 h2 =>
      rw [List.reverse_cons, List.reverse_cons]
      exact DRAll.append (DRAll.reverse h2) (.cons h1 .nil)
theorem DRAll.ints {K : PySem.W.Frag} {H : Hp} : ∀ (ns : List Int), DRAll K H (ns.map V.int) (ns.map PyData.int)
  | [] => .nil
  | n :: ns => .cons (.int n) (DRAll.ints ns)
theorem DRAll.ints_inv {K : PySem.W.Frag} {H : Hp} : ∀ {ns : List Int} {vs : List V}, DRAll K H vs (ns.map PyData.int) → vs = ns.map V.int
  | [], _, h => by cases h; rfl
  | n :: ns, _, h => by
    cases h with
    | cons h1 h2 =>
      cases h1
      rw [DRAll.ints_inv h2]
      rfl
theorem DRAll.bls_inv {K : PySem.W.Frag} {H : Hp} : ∀ {ns : List Bool} {vs : List V}, DRAll K H vs (ns.map PyData.bool) → vs = ns.map V.bl
  | [], _, h => by cases h; rfl
  | n :: ns, _, h => by
    cases h with
    | cons h1 h2 =>
      cases h1
      rw [DRAll.bls_inv h2]
      rfl
theorem DRAll.strs_inv {K : PySem.W.Frag} {H : Hp} : ∀ {ns : List Str} {vs : List V}, DRAll K H vs (ns.map PyData.str) → vs = ns.map V.str
  | [], _, h => by cases h; rfl
  | n :: ns, _, h => by
    cases h with
    | cons h1 h2 =>
      cases h1
      rw [DRAll.strs_inv h2]
      rfl

open Classical in
/-- the heap without what is hidden -/
noncomputable def hdn (S : Addr → Prop) (H : Hp) : Hp := fun b => if S b then none else H b
theorem mk_some {S : Addr → Prop} {H : Hp} {b : Addr} {o : HO} : hdn S H b = some o ↔ ¬ S b ∧ H b = some o := by
  unfold hdn
  by_cases h : S b
  · simp [h]
  · simp [h]
theorem mk_le (S : Addr → Prop) (H : Hp) : Same (hdn S H) H := fun _ _ e => (mk_some.mp e).2
theorem mk_same {S S' : Addr → Prop} {H H' : Hp} (h : ∀ b o, ¬ S b → H b = some o → ¬ S' b ∧ H' b = some o) : Same (hdn S H) (hdn S' H') := fun b o e => by
  obtain ⟨e1, e2⟩ := mk_some.mp e
  exact mk_some.mpr (h b o e1 e2)
theorem mk_grow {S : Addr → Prop} {H H' : Hp} (h : Same H H') : Same (hdn S H) (hdn S H') := mk_same fun b o n e => ⟨n, h b o e⟩
theorem upd_same' {H : Hp} {p : Addr} {o : HO} (h : H p = none) : Same H (upd H p o) := fun b u e => by
  rw [upd_ne (ne_of_none e h)]
  exact e

/-! ### values, slots -/
/-- what is handed about: data, or a house -/
inductive Vl where
  | dat (d : PyData)
  | hse (ts ties : List PyData)
  /-- a dict that stays: text keys, ints -/
  | dct (kvs : List (Str × Int))
/-- its pairs as the hand layer holds them -/
def dK (kvs : List (Str × Int)) : List (Key × V) := kvs.map fun p => (.inr p.1, .int p.2)
structure Pm where
  K : PySem.W.Frag
  /-- the script's numbers -/
  ns : List Int
  hs : Hp → Addr → List PyData → List PyData → Prop
  hmono : ∀ {H H' : Hp} {x : Addr} {ts ties : List PyData}, Same H H' → hs H x ts ties → hs H' x ts ties
def VR (P : Pm) (H : Hp) (v : V) : Vl → Prop
  | .dat d => DR P.K H v d
  | .hse t s => ∃ x, v = .ref x ∧ P.hs H x t s
  | .dct kvs => ∃ x, v = .ref x ∧ H x = some (.dK (dK kvs))
inductive VRs (P : Pm) (H : Hp) : List V → List Vl → Prop
  | nil : VRs P H [] []
  | cons {v : V} {vs : List V} {d : Vl} {ds : List Vl} : VR P H v d → VRs P H vs ds → VRs P H (v :: vs) (d :: ds)
theorem VR.mono {P : Pm} {H H' : Hp} (e : Same H H') : ∀ {d : Vl} {v : V}, VR P H v d → VR P H' v d
  | .dat d, v, h => dr_mono e d v h
  | .hse t s, v, h => by
    obtain ⟨x, e1, e2⟩ := h
    exact ⟨x, e1, P.hmono e e2⟩
  | .dct _, v, h => by
    obtain ⟨x, e1, e2⟩ := h
    exact ⟨x, e1, e _ _ e2⟩
theorem VRs.mono {P : Pm} {H H' : Hp} (e : Same H H') {ds : List Vl} {vs : List V} (h : VRs P H vs ds) : VRs P H' vs ds := by
  induction h with
  | nil => exact .nil
  | cons h1 _ ih => exact .cons (VR.mono e h1) ih
theorem VRs.length {P : Pm} {H : Hp} {ds : List Vl} {vs : List V} (h : VRs P H vs ds) : vs.length = ds.length := by
  induction h with
  | nil => rfl
  | cons h1 _ ih => simp [ih]

inductive Sl where
  | no
  | vl (x : Vl)
  | own (ds : List PyData)
  | row
abbrev Ro := Int × Int
abbrev Mx (α : Type) := List Sl → Ro → Option (α × Ro)

def Own (σ : St) (ss : List Sl) (a : Addr) : Prop := ∃ (i : Nat) (ds : List PyData), ss[i]? = some (.own ds) ∧ σ[i]? = some (some (.ref a))
/-- what is hidden: the callers' (M), the row, the own lists -/
def Msk (M : Addr → Prop) (r : Option Addr) (σ : St) (ss : List Sl) : Addr → Prop := fun a => M a ∨ r = some a ∨ Own σ ss a

structure ER (P : Pm) (M : Addr → Prop) (r : Option Addr) (σ : St) (H : Hp) (ss : List Sl) (rw : Ro) : Prop where
  len : σ.length = ss.length
  sl : ∀ (i : Nat) (x : Vl), ss[i]? = some (.vl x) → ∃ v, σ[i]? = some (some v) ∧ VR P (hdn (Msk M r σ ss) H) v x
  ow : ∀ (i : Nat) (ds : List PyData), ss[i]? = some (.own ds) → ∃ a vs, σ[i]? = some (some (.ref a)) ∧ H a = some (.lst vs) ∧ DRAll P.K (hdn (Msk M r σ ss) H) vs ds ∧ ¬ M a ∧ r ≠ some a
  rs : ∀ (i : Nat), ss[i]? = some .row → ∃ a, r = some a ∧ σ[i]? = some (some (.ref a))
  rk : ∀ a, r = some a → ¬ M a ∧ ∃ sa, H a = some (.lst [.ref sa, .int rw.1, .int rw.2]) ∧ SqL P.K (hdn (Msk M r σ ss) H) sa (P.ns.map V.int)
  m0 : ∀ a, M a → H a ≠ none
  inj : ∀ (i j : Nat) (a : Addr) (ds es : List PyData), ss[i]? = some (.own ds) → ss[j]? = some (.own es) → σ[i]? = some (some (.ref a)) → σ[j]? = some (some (.ref a)) → i = j

def KeepR (r : Option Addr) (H H' : Hp) : Prop := ∀ b o, H b = some o → r ≠ some b → H' b = some o
theorem KeepR.refl (r : Option Addr) (H : Hp) : KeepR r H H := fun _ _ e _ => e
theorem KeepR.of {r : Option Addr} {H H' : Hp} (h : Same H H') : KeepR r H H' := fun b o e _ => h b o e
theorem KeepR.trans {r : Option Addr} {H H1 H2 : Hp} (a : KeepR r H H1) (b : KeepR r H1 H2) : KeepR r H H2 := fun c o e n => b c o (a c o e n) n

section
variable {P : Pm} {M : Addr → Prop} {r : Option Addr} {σ : St} {H H' : Hp} {ss : List Sl} {rw rw' : Ro}
theorem ER.alloc (I : ER P M r σ H ss rw) : ∀ a, Msk M r σ ss a → H a ≠ none := fun a h => by
  rcases h with h | h | ⟨i, ds, h1, h2⟩
  · exact I.m0 a h
  · obtain ⟨_, vs, e, _⟩ := I.rk a h
    rw [e]; simp
  · obtain ⟨b, vs, e1, e2, _⟩ := I.ow i ds h1
    have : a = b := by
      rw [h2] at e1
      simpa using e1
    subst this
    rw [e2]; simp
theorem KeepR.msk (k : KeepR r H H') : Same (hdn (Msk M r σ ss) H) (hdn (Msk M r σ ss) H') := mk_same fun b o n e => ⟨n, k b o e fun z => n (.inr (.inl z))⟩
/-- the heap grows, the row stays -/
theorem ER.grow (I : ER P M r σ H ss rw) (e : Same H H') : ER P M r σ H' ss rw where
  len := I.len
  sl := fun i x h => by
    obtain ⟨v, h1, h2⟩ := I.sl i x h
    exact ⟨v, h1, VR.mono (mk_grow e) h2⟩
  ow := fun i ds h => by
    obtain ⟨a, vs, h1, h2, h3, h4⟩ := I.ow i ds h
    exact ⟨a, vs, h1, e _ _ h2, drAll_mono (mk_grow e) _ _ h3, h4⟩
  rs := I.rs
  rk := fun a h => by
    obtain ⟨h1, vs, h2, h3⟩ := I.rk a h
    exact ⟨h1, vs, e _ _ h2, (mk_grow e).seq h3⟩
  m0 := fun a h => by
    have q := I.m0 a h
    cases z : H a with
    | none => exact absurd z q
    | some o => rw [e _ _ z]; simp
  inj := I.inj
theorem ER.unhide {p : Addr} (I : ER P (fun a => M a ∨ a = p) r σ H ss rw) : ER P M r σ H ss rw := by
  have sub : Same (hdn (Msk (fun a => M a ∨ a = p) r σ ss) H) (hdn (Msk M r σ ss) H) := fun b o h => by
    obtain ⟨n, h⟩ := mk_some.mp h
    refine mk_some.mpr ⟨fun z => n ?_, h⟩
    rcases z with z | z | z
    · exact .inl (.inl z)
    · exact .inr (.inl z)
    · exact .inr (.inr z)
  refine ⟨I.len, fun j y h => ?_, fun j ds h => ?_, I.rs, fun a h => ?_, fun a h => I.m0 a (.inl h), I.inj⟩
  · obtain ⟨u, h1, h2⟩ := I.sl j y h
    exact ⟨u, h1, VR.mono sub h2⟩
  · obtain ⟨a, us, h1, h2, h3, h4, h5⟩ := I.ow j ds h
    exact ⟨a, us, h1, h2, drAll_mono sub _ _ h3, fun z => h4 (.inl z), h5⟩
  · obtain ⟨h1, sa, h2, h3⟩ := I.rk a h
    exact ⟨fun z => h1 (.inl z), sa, h2, sub.seq h3⟩
/-- a new object at p is hidden -/
theorem ER.hideS (I : ER P M r σ H ss rw) (e : Same H H') {p : Addr} (hp : H p = none) (hp' : H' p ≠ none) : ER P (fun a => M a ∨ a = p) r σ H' ss rw := by
  have sub : Same (hdn (Msk M r σ ss) H) (hdn (Msk (fun a => M a ∨ a = p) r σ ss) H') := mk_same fun b u n h => by
    have nb : b ≠ p := ne_of_none h hp
    refine ⟨fun z => ?_, e b u h⟩
    rcases z with (z | z) | z | z
    · exact n (.inl z)
    · exact nb z
    · exact n (.inr (.inl z))
    · exact n (.inr (.inr z))
  refine ⟨I.len, fun j y h => ?_, fun j ds h => ?_, I.rs, fun a h => ?_, fun a h => ?_, I.inj⟩
  · obtain ⟨u, h1, h2⟩ := I.sl j y h
    exact ⟨u, h1, VR.mono sub h2⟩
  · obtain ⟨a, us, h1, h2, h3, h4, h5⟩ := I.ow j ds h
    exact ⟨a, us, h1, e _ _ h2, drAll_mono sub _ _ h3, fun z => z.elim h4 (ne_of_none h2 hp), h5⟩
  · obtain ⟨h1, sa, h2, h3⟩ := I.rk a h
    exact ⟨fun z => z.elim h1 (ne_of_none h2 hp), sa, e _ _ h2, sub.seq h3⟩
  · rcases h with h | h
    · exact (I.grow e).m0 a h
    · subst h
      exact hp'
end

/-! ### readings -/
/-- an expression: m tells its value and the row behind it -/
def tE (P : Pm) (m : Mx Vl) : TE := fun σ H Q => ∃ M r ss rw x rw', ER P M r σ H ss rw ∧ m ss rw = some (x, rw') ∧
  ∀ v H', KeepR r H H' → ER P M r σ H' ss rw' → VR P (hdn (Msk M r σ ss) H') v x → Q v H'
/-- a new list -/
def tL (P : Pm) (m : Mx (List PyData)) : TE := fun σ H Q => ∃ M r ss rw ds rw', ER P M r σ H ss rw ∧ m ss rw = some (ds, rw') ∧
  ∀ p vs H', KeepR r H H' → ER P (fun a => M a ∨ a = p) r σ H' ss rw' → H p = none → H' p = some (.lst vs) → DRAll P.K (hdn (Msk (fun a => M a ∨ a = p) r σ ss) H') vs ds → Q (.ref p) H'
def tT (P : Pm) (m : Mx Bool) : TT := fun σ H Q => ∃ M r ss rw b rw', ER P M r σ H ss rw ∧ m ss rw = some (b, rw') ∧ ∀ H', KeepR r H H' → ER P M r σ H' ss rw' → Q b H'
def tA (P : Pm) (m : Mx (List Vl)) : TA := fun σ H Q => ∃ M r ss rw xs rw', ER P M r σ H ss rw ∧ m ss rw = some (xs, rw') ∧
  ∀ vs H', KeepR r H H' → ER P M r σ H' ss rw' → VRs P (hdn (Msk M r σ ss) H') vs xs → Q vs H'
def tO (P : Pm) (m : Mx (Option Int)) : TO := fun σ H Q => ∃ M r ss rw x rw', ER P M r σ H ss rw ∧ m ss rw = some (x, rw') ∧ ∀ H', KeepR r H H' → ER P M r σ H' ss rw' → Q x H'

abbrev FE (X : Cx) (P : Pm) (e : Expr) (m : Mx Vl) : Prop := PE X e (tE P m)
abbrev FT (X : Cx) (P : Pm) (e : Expr) (m : Mx Bool) : Prop := PT X e (tT P m)
abbrev FA (X : Cx) (P : Pm) (es : List Expr) (m : Mx (List Vl)) : Prop := PA X es (tA P m)

theorem PE.imp {X : Cx} {e : Expr} {t t' : TE} (h : PE X e t) (i : ∀ σ H Q, t' σ H Q → t σ H Q) : PE X e t' := ⟨fun pins s σ H Q I q => h.run pins s σ H Q I (i σ H Q q)⟩
theorem PT.imp {X : Cx} {e : Expr} {t t' : TT} (h : PT X e t) (i : ∀ σ H Q, t' σ H Q → t σ H Q) : PT X e t' := ⟨fun pins s σ H Q I q => h.run pins s σ H Q I (i σ H Q q)⟩
theorem PW.imp {X : Cx} {e : Expr} {t t' : TT} (h : PW X e t) (i : ∀ σ H Q, t' σ H Q → t σ H Q) : PW X e t' := ⟨fun wh pins s σ H Q I q => h.run wh pins s σ H Q I (i σ H Q q)⟩
theorem PA.imp {X : Cx} {es : List Expr} {t t' : TA} (h : PA X es t) (i : ∀ σ H Q, t' σ H Q → t σ H Q) : PA X es t' := ⟨fun pos pins s σ H Q I q => h.run pos pins s σ H Q I (i σ H Q q)⟩
theorem PS.imp {X : Cx} {st : Stmt} {t t' : TS} (h : PS X st t) (i : ∀ D σ H, t' D σ H → t D σ H) : PS X st t' := ⟨fun pins s σ H D I q => h.run pins s σ H D I (i D σ H q)⟩
theorem PSs.imp {X : Cx} {st : List Stmt} {t t' : TS} (h : PSs X st t) (i : ∀ D σ H, t' D σ H → t D σ H) : PSs X st t' := ⟨fun pins s σ H D I q => h.run pins s σ H D I (i D σ H q)⟩
theorem PO.imp {X : Cx} {e : Option Expr} {t t' : TO} (h : PO X e t) (i : ∀ σ H Q, t' σ H Q → t σ H Q) : PO X e t' := ⟨fun pins s σ H Q I q => h.run pins s σ H Q I (i σ H Q q)⟩

/-! ### the data's words -/
def bnd {α β : Type} (m : Mx α) (f : α → Mx β) : Mx β := fun ss rw => match m ss rw with
  | none => none
  | some (a, rw1) => f a ss rw1
def pur {α : Type} (a : α) : Mx α := fun _ rw => some (a, rw)
def opt {α : Type} (o : Option α) : Mx α := fun _ rw => match o with
  | none => none
  | some a => some (a, rw)
theorem bnd_some {α β : Type} {m : Mx α} {f : α → Mx β} {ss : List Sl} {rw rw' : Ro} {b : β} (h : bnd m f ss rw = some (b, rw')) : ∃ a rw1, m ss rw = some (a, rw1) ∧ f a ss rw1 = some (b, rw') := by
  unfold bnd at h
  cases e : m ss rw with
  | none => rw [e] at h; cases h
  | some p =>
    obtain ⟨a, rw1⟩ := p
    rw [e] at h
    exact ⟨a, rw1, rfl, h⟩
theorem opt_some {α : Type} {o : Option α} {ss : List Sl} {rw rw' : Ro} {a : α} (h : opt o ss rw = some (a, rw')) : o = some a ∧ rw' = rw := by
  unfold opt at h
  cases o with
  | none => cases h
  | some b =>
    simp only [Option.some.injEq, Prod.mk.injEq] at h
    exact ⟨by rw [h.1], h.2.symm⟩
theorem pur_some {α : Type} {a b : α} {ss : List Sl} {rw rw' : Ro} (h : pur a ss rw = some (b, rw')) : a = b ∧ rw' = rw := by
  simp only [pur, Option.some.injEq, Prod.mk.injEq] at h
  exact ⟨h.1, h.2.symm⟩
def m1 (g : Vl → Option Vl) (fa : Mx Vl) : Mx Vl := bnd fa fun x => opt (g x)
def m2 (g : Vl → Vl → Option Vl) (fa fb : Mx Vl) : Mx Vl := bnd fa fun x => bnd fb fun y => opt (g x y)
def mVar (i : Nat) : Mx Vl := fun ss rw => match ss[i]? with
  | some (.vl x) => some (x, rw)
  | _ => none
def mC (d : PyData) : Mx Vl := pur (.dat d)
/-- a test by its value -/
def mTst (m : Mx Vl) : Mx Bool := bnd m fun x => opt (match x with
  | .dat (.bool b) => some b
  | _ => none)
def mBl (m : Mx Bool) : Mx Vl := bnd m fun b => pur (.dat (.bool b))
def mAnd (a b : Mx Bool) : Mx Bool := bnd a fun x => if x = true then b else pur false
def mOr (a b : Mx Bool) : Mx Bool := bnd a fun x => if x = true then pur true else b
def mNot (a : Mx Bool) : Mx Bool := bnd a fun x => pur (!x)
def mIf {α : Type} (c : Mx Bool) (a b : Mx α) : Mx α := bnd c fun x => if x = true then a else b
def mNil : Mx (List Vl) := pur []
def mCons (a : Mx Vl) (b : Mx (List Vl)) : Mx (List Vl) := bnd a fun x => bnd b fun xs => pur (x :: xs)

section
variable {X : Cx} {P : Pm} {e a b c : Expr} {es : List Expr} {fa fb fc m : Mx Vl} {pos : Pos}
/-! ### names, constants -/
theorem fe_var (i : Nat) {x : Str} {pos : Pos} (hN : X.N[i]? = some x := by rfl) (hv : Vis X.env.scope x := by first | exact Or.inl rfl | exact Or.inr (Or.inl rfl) | exact Or.inr (Or.inr rfl)) (hd : (x == ("__debug__" : Str)) = false := by decide)
    (hcd : (x == ("__classdict__" : Str)) = false := by decide) : FE X P (.Name x pos) (mVar i) := by
  refine PE.imp (pe_var hN hv hd hcd) fun σ H Q ⟨M, r, ss, rw, y, rw', I, em, q⟩ => ?_
  unfold mVar at em
  split at em
  next z hz =>
    simp only [Option.some.injEq, Prod.mk.injEq] at em
    obtain ⟨rfl, rfl⟩ := em
    obtain ⟨v, h1, h2⟩ := I.sl _ _ hz
    exact ⟨v, h1, q v H (KeepR.refl _ _) I h2⟩
  next => cases em
theorem fe_c {t : V} {d : PyData} (h : PE X e (tC t)) (hd : ∀ H, DR P.K H t d) : FE X P e (mC d) := by
  refine PE.imp h fun σ H Q ⟨M, r, ss, rw, y, rw', I, em, q⟩ => ?_
  obtain ⟨rfl, rfl⟩ := pur_some em
  exact q t H (KeepR.refl _ _) I (hd _)
theorem fe_int {i j pos} : FE X P (.Constant (.int i) j pos) (mC (.int i)) := fe_c pe_int fun _ => .int i
theorem fe_bl {i j pos} : FE X P (.Constant (.bool i) j pos) (mC (.bool i)) := fe_c pe_bl fun _ => .bl i
theorem fe_non {j pos} : FE X P (.Constant .none j pos) (mC .none) := fe_c pe_non fun _ => .non
theorem fe_str {i j pos} : FE X P (.Constant (.str i) j pos) (mC (.str i)) := fe_c pe_str fun _ => .str i
theorem fe_glob {x : Str} {v : V} {u : Value} {d : PyData} {pos : Pos} (hm : X.mg x = some u) (r : RelV v u) (hd : ∀ H, DR P.K H v d) (hg : Gl X x := by rfl) (hd' : (x == ("__debug__" : Str)) = false := by decide) : FE X P (.Name x pos) (mC d) := fe_c (pe_glob hg hm r hd') hd

/-! ### operators -/
/-- an operation on values tells g of the data -/
def ROk (P : Pm) (r : R2) (g : Vl → Vl → Option Vl) : Prop := ∀ (S : Addr → Prop) (H : Hp) (x y : V) (dx dy dz : Vl) (Q : VK), (∀ a, S a → H a ≠ none) → VR P (hdn S H) x dx → VR P (hdn S H) y dy → g dx dy = some dz →
  (∀ v H', Same H H' → VR P (hdn S H') v dz → Q v H') → r x y H Q
def UOk (P : Pm) (r : V → Hp → VK → Prop) (g : Vl → Option Vl) : Prop := ∀ (S : Addr → Prop) (H : Hp) (x : V) (dx dz : Vl) (Q : VK), (∀ a, S a → H a ≠ none) → VR P (hdn S H) x dx → g dx = some dz →
  (∀ v H', Same H H' → VR P (hdn S H') v dz → Q v H') → r x H Q
theorem tE_op {r : R2} {g : Vl → Vl → Option Vl} (hr : ROk P r g) : ∀ σ H Q, tE P (m2 g fa fb) σ H Q → tOp r (tE P fa) (tE P fb) σ H Q := by
  rintro σ H Q ⟨M, r0, ss, rw, z, rw', I, e, q⟩
  obtain ⟨x, rw1, e1, e⟩ := bnd_some e
  obtain ⟨y, rw2, e2, e⟩ := bnd_some e
  obtain ⟨e3, rfl⟩ := opt_some e
  refine ⟨M, r0, ss, rw, x, rw1, I, e1, fun v H1 k1 I1 hv => ⟨M, r0, ss, rw1, y, rw', I1, e2, fun u H2 k2 I2 hu => ?_⟩⟩
  refine hr (Msk M r0 σ ss) H2 v u x y z Q I2.alloc (VR.mono k2.msk hv) hu e3 fun w H3 s3 hw => ?_
  exact q w H3 ((k1.trans k2).trans (KeepR.of s3)) (I2.grow s3) hw
theorem fe_op {op : Operator} {r : R2} {g : Vl → Vl → Option Vl} (ho : OpR X (binaryOp op) r) (hr : ROk P r g) (ha : FE X P a fa) (hb : FE X P b fb) : FE X P (.BinOp a op b pos) (m2 g fa fb) :=
  PE.imp (pe_op ho ha hb) (tE_op hr)
theorem fe_cmp {op : CmpOp} {r : R2} {g : Vl → Vl → Option Vl} (ho : OpR X (compareOp op) r) (hr : ROk P r g) (ha : FE X P a fa) (hb : FE X P b fb) (hm : behindInMarks op b = false) : FE X P (.Compare a [op] [b] pos) (m2 g fa fb) :=
  PE.imp (pe_cmpR ho ha hb hm) (tE_op hr)
theorem tT_of (h : ∀ σ H Q, tE P m σ H Q → tE P fa σ H Q) : True := trivial
theorem tT_test {t : TE} (h : ∀ σ H Q, tE P m σ H Q → t σ H Q) : ∀ σ H Q, tT P (mTst m) σ H Q → tTest t σ H Q := by
  rintro σ H Q ⟨M, r0, ss, rw, z, rw', I, e, q⟩
  obtain ⟨x, rw1, e1, e⟩ := bnd_some e
  obtain ⟨e2, rfl⟩ := opt_some e
  refine h σ H _ ⟨M, r0, ss, rw, x, rw', I, e1, fun v H1 k1 I1 hv => ?_⟩
  split at e2
  next b =>
    cases e2
    have hv : DR P.K (hdn (Msk M r0 σ ss) H1) v (.bool z) := hv
    cases hv
    exact ⟨z, rfl, q H1 k1 I1⟩
  next => cases e2
theorem ft_cmp {op : CmpOp} {r : R2} {g : Vl → Vl → Option Vl} (ho : OpR X (compareOp op) r) (hr : ROk P r g) (ha : FE X P a fa) (hb : FE X P b fb) (hm : behindInMarks op b = false) : FT X P (.Compare a [op] [b] pos) (mTst (m2 g fa fb)) :=
  PT.imp (pt_cmpR ho ha hb hm) (tT_test (tE_op hr))
/-- a op b op' c -/
def mChain (g g' : Vl → Vl → Option Vl) (fa fb fc : Mx Vl) : Mx Vl := bnd fa fun x => bnd fb fun y => bnd (mTst (opt (g x y))) fun k => if k = true then bnd fc fun z => opt (g' y z) else pur (.dat (.bool false))
theorem tE_chain {r r' : R2} {g g' : Vl → Vl → Option Vl} (hr : ROk P r g) (hr' : ROk P r' g') : ∀ σ H Q, tE P (mChain g g' fa fb fc) σ H Q → tChain r r' (tE P fa) (tE P fb) (tE P fc) σ H Q := by
  rintro σ H Q ⟨M, r0, ss, rw, z, rw', I, e, q⟩
  obtain ⟨x, rw1, e1, e⟩ := bnd_some e
  obtain ⟨y, rw2, e2, e⟩ := bnd_some e
  obtain ⟨k, rw3, e3, e⟩ := bnd_some e
  obtain ⟨w, rw4, e4, e5⟩ := bnd_some e3
  obtain ⟨g4, rfl⟩ := opt_some e4
  obtain ⟨e5, rfl⟩ := opt_some e5
  refine ⟨M, r0, ss, rw, x, rw1, I, e1, fun v H1 k1 I1 hv => ⟨M, r0, ss, rw1, y, rw3, I1, e2, fun u H2 k2 I2 hu => ?_⟩⟩
  refine hr (Msk M r0 σ ss) H2 v u x y w _ I2.alloc (VR.mono k2.msk hv) hu g4 fun v3 H3 s3 hw => ?_
  split at e5
  next b =>
    cases e5
    have hw : DR P.K (hdn (Msk M r0 σ ss) H3) v3 (.bool k) := hw
    cases hw
    refine ⟨k, rfl, ?_⟩
    cases k with
    | false =>
      rw [if_neg Bool.false_ne_true]
      rw [if_neg Bool.false_ne_true] at e
      obtain ⟨rfl, rfl⟩ := pur_some e
      exact q _ H3 ((k1.trans k2).trans (KeepR.of s3)) (I2.grow s3) (DR.bl false)
    | true =>
      rw [if_pos rfl]
      rw [if_pos rfl] at e
      obtain ⟨z', rw5, e6, e⟩ := bnd_some e
      obtain ⟨e7, rfl⟩ := opt_some e
      refine ⟨M, r0, ss, _, z', _, I2.grow s3, e6, fun v4 H4 k4 I4 hv4 => ?_⟩
      refine hr' (Msk M r0 σ ss) H4 u v4 y z' z Q I4.alloc (VR.mono k4.msk (VR.mono (mk_grow s3) hu)) hv4 e7 fun v5 H5 s5 h5 => ?_
      exact q v5 H5 ((((k1.trans k2).trans (KeepR.of s3)).trans k4).trans (KeepR.of s5)) (I4.grow s5) h5
  next => cases e5
theorem fe_chain {op op' : CmpOp} {r r' : R2} {g g' : Vl → Vl → Option Vl} (ho : OpR X (compareOp op) r) (hr : ROk P r g) (ho' : OpR X (compareOp op') r') (hr' : ROk P r' g') (ha : FE X P a fa) (hb : FE X P b fb) (hc : FE X P c fc)
    (hm : lastMarks [op, op'] [b, c] = false := by with_unfolding_all rfl) : FE X P (.Compare a [op, op'] [b, c] pos) (mChain g g' fa fb fc) := PE.imp (pe_chain ho ho' ha hb hc hm) (tE_chain hr hr')
theorem ft_chain {op op' : CmpOp} {r r' : R2} {g g' : Vl → Vl → Option Vl} (ho : OpR X (compareOp op) r) (hr : ROk P r g) (ho' : OpR X (compareOp op') r') (hr' : ROk P r' g') (ha : FE X P a fa) (hb : FE X P b fb) (hc : FE X P c fc)
    (hm : lastMarks [op, op'] [b, c] = false := by with_unfolding_all rfl) : FT X P (.Compare a [op, op'] [b, c] pos) (mTst (mChain g g' fa fb fc)) := PT.imp (pt_chain ho ho' ha hb hc hm) (tT_test (tE_chain hr hr'))
theorem fe_un {op : UnaryOp} {r : V → Hp → VK → Prop} {g : Vl → Option Vl} (ho : UnR X (unaryOp op) r) (hr : UOk P r g) (ha : FE X P a fa) : FE X P (.UnaryOp op a pos) (m1 g fa) := by
  refine PE.imp (pe_un ho ha) ?_
  rintro σ H Q ⟨M, r0, ss, rw, z, rw', I, e, q⟩
  obtain ⟨x, rw1, e1, e⟩ := bnd_some e
  obtain ⟨e3, rfl⟩ := opt_some e
  refine ⟨M, r0, ss, rw, x, rw', I, e1, fun v H1 k1 I1 hv => ?_⟩
  exact hr (Msk M r0 σ ss) H1 v x z Q I1.alloc hv e3 fun w H3 s3 hw => q w H3 (k1.trans (KeepR.of s3)) (I1.grow s3) hw

/-! ### and, or, not, if -/
variable {ta tb tc : Mx Bool} {rest : List Expr}
theorem tT_val : ∀ σ H Q, tT P (mTst m) σ H Q → tB (tE P m) σ H Q := tT_test fun _ _ _ h => h
theorem ft_val (h : FE X P e m) (he : ∀ whole, isTrue e X.env whole = (do let v ← whole; standAt e.pos; holding [v] (truthy v)) := by intro _; rfl) : FT X P e (mTst m) := PT.imp (pt_val h he) tT_val
theorem tT_and : ∀ σ H Q, tT P (mAnd ta tb) σ H Q → tAnd (tT P ta) (tT P tb) σ H Q := by
  rintro σ H Q ⟨M, r0, ss, rw, z, rw', I, e, q⟩
  obtain ⟨x, rw1, e1, e⟩ := bnd_some e
  refine ⟨M, r0, ss, rw, x, rw1, I, e1, fun H1 k1 I1 => ?_⟩
  cases x with
  | false =>
    rw [if_neg Bool.false_ne_true] at e ⊢
    obtain ⟨rfl, rfl⟩ := pur_some e
    exact q H1 k1 I1
  | true =>
    rw [if_pos rfl] at e ⊢
    exact ⟨M, r0, ss, rw1, z, rw', I1, e, fun H2 k2 I2 => q H2 (k1.trans k2) I2⟩
theorem tT_or : ∀ σ H Q, tT P (mOr ta tb) σ H Q → tOr (tT P ta) (tT P tb) σ H Q := by
  rintro σ H Q ⟨M, r0, ss, rw, z, rw', I, e, q⟩
  obtain ⟨x, rw1, e1, e⟩ := bnd_some e
  refine ⟨M, r0, ss, rw, x, rw1, I, e1, fun H1 k1 I1 => ?_⟩
  cases x with
  | true =>
    rw [if_pos rfl] at e ⊢
    obtain ⟨rfl, rfl⟩ := pur_some e
    exact q H1 k1 I1
  | false =>
    rw [if_neg Bool.false_ne_true] at e ⊢
    exact ⟨M, r0, ss, rw1, z, rw', I1, e, fun H2 k2 I2 => q H2 (k1.trans k2) I2⟩
theorem fw_and1 (ha : FT X P a ta) : PW X (.BoolOp .And [a] pos) (tT P ta) := pw_and1 ha
theorem fw_or1 (ha : FT X P a ta) : PW X (.BoolOp .Or [a] pos) (tT P ta) := pw_or1 ha
theorem fw_and (ha : FT X P a ta) (hb : PW X (.BoolOp .And (b :: rest) pos) (tT P tb)) : PW X (.BoolOp .And (a :: b :: rest) pos) (tT P (mAnd ta tb)) := PW.imp (pw_and ha hb) tT_and
theorem fw_or (ha : FT X P a ta) (hb : PW X (.BoolOp .Or (b :: rest) pos) (tT P tb)) : PW X (.BoolOp .Or (a :: b :: rest) pos) (tT P (mOr ta tb)) := PW.imp (pw_or ha hb) tT_or
theorem ft_w (h : PW X e (tT P ta)) : FT X P e ta := h.pt
theorem ft_not (ha : FT X P a ta) : FT X P (.UnaryOp .Not a pos) (mNot ta) := by
  refine PT.imp (pt_not ha) ?_
  rintro σ H Q ⟨M, r0, ss, rw, z, rw', I, e, q⟩
  obtain ⟨x, rw1, e1, e⟩ := bnd_some e
  obtain ⟨rfl, rfl⟩ := pur_some e
  exact ⟨M, r0, ss, rw, x, rw', I, e1, fun H1 k1 I1 => q H1 k1 I1⟩
/-- values: a and b, a or b, not a (a, b bools) -/
def mAndV (fa fb : Mx Vl) : Mx Vl := bnd (mTst fa) fun x => if x = true then fb else pur (.dat (.bool false))
def mOrV (fa fb : Mx Vl) : Mx Vl := bnd (mTst fa) fun x => if x = true then pur (.dat (.bool true)) else fb
theorem tst_some {m : Mx Vl} {ss : List Sl} {rw rw' : Ro} {b : Bool} (h : mTst m ss rw = some (b, rw')) : m ss rw = some (.dat (.bool b), rw') := by
  obtain ⟨x, rw1, e1, e⟩ := bnd_some h
  obtain ⟨e2, rfl⟩ := opt_some e
  split at e2
  next z => cases e2; exact e1
  next => cases e2
theorem vr_bool {P : Pm} {H : Hp} {v : V} {b : Bool} (h : VR P H v (.dat (.bool b))) : v = .bl b := by
  have h : DR P.K H v (.bool b) := h
  cases h
  rfl
theorem fe_and (ha : FE X P a fa) (hb : FE X P (.BoolOp .And (b :: rest) pos) fb) : FE X P (.BoolOp .And (a :: b :: rest) pos) (mAndV fa fb) := by
  refine PE.imp (pe_and ha hb) ?_
  rintro σ H Q ⟨M, r0, ss, rw, z, rw', I, e, q⟩
  obtain ⟨x, rw1, e1, e⟩ := bnd_some e
  refine ⟨M, r0, ss, rw, _, rw1, I, tst_some e1, fun v H1 k1 I1 hv => ⟨x, vr_bool hv, ?_⟩⟩
  cases x with
  | false =>
    rw [if_neg Bool.false_ne_true] at e ⊢
    obtain ⟨rfl, rfl⟩ := pur_some e
    exact q _ H1 k1 I1 (DR.bl false)
  | true =>
    rw [if_pos rfl] at e ⊢
    exact ⟨M, r0, ss, rw1, z, rw', I1, e, fun v2 H2 k2 I2 h2 => q v2 H2 (k1.trans k2) I2 h2⟩
theorem fe_or (ha : FE X P a fa) (hb : FE X P (.BoolOp .Or (b :: rest) pos) fb) : FE X P (.BoolOp .Or (a :: b :: rest) pos) (mOrV fa fb) := by
  refine PE.imp (pe_or ha hb) ?_
  rintro σ H Q ⟨M, r0, ss, rw, z, rw', I, e, q⟩
  obtain ⟨x, rw1, e1, e⟩ := bnd_some e
  refine ⟨M, r0, ss, rw, _, rw1, I, tst_some e1, fun v H1 k1 I1 hv => ⟨x, vr_bool hv, ?_⟩⟩
  cases x with
  | true =>
    rw [if_pos rfl] at e ⊢
    obtain ⟨rfl, rfl⟩ := pur_some e
    exact q _ H1 k1 I1 (DR.bl true)
  | false =>
    rw [if_neg Bool.false_ne_true] at e ⊢
    exact ⟨M, r0, ss, rw1, z, rw', I1, e, fun v2 H2 k2 I2 h2 => q v2 H2 (k1.trans k2) I2 h2⟩
theorem fe_one {op} (h : FE X P a fa) : FE X P (.BoolOp op [a] pos) fa := pe_one h
def mNotV (fa : Mx Vl) : Mx Vl := bnd (mTst fa) fun x => pur (.dat (.bool (!x)))
theorem fe_not (ha : FE X P a fa) : FE X P (.UnaryOp .Not a pos) (mNotV fa) := by
  refine PE.imp (pe_not ha) ?_
  rintro σ H Q ⟨M, r0, ss, rw, z, rw', I, e, q⟩
  obtain ⟨x, rw1, e1, e⟩ := bnd_some e
  obtain ⟨rfl, rfl⟩ := pur_some e
  exact ⟨M, r0, ss, rw, _, rw', I, tst_some e1, fun v H1 k1 I1 hv => ⟨x, vr_bool hv, q _ H1 k1 I1 (DR.bl _)⟩⟩
theorem fe_if {c : Expr} (hc : FT X P c tc) (ha : FE X P a fa) (hb : FE X P b fb) : FE X P (.IfExp c a b pos) (mIf tc fa fb) := by
  refine PE.imp (pe_ifExp hc ha hb) ?_
  rintro σ H Q ⟨M, r0, ss, rw, z, rw', I, e, q⟩
  obtain ⟨x, rw1, e1, e⟩ := bnd_some e
  refine ⟨M, r0, ss, rw, x, rw1, I, e1, fun H1 k1 I1 => ?_⟩
  cases x with
  | true =>
    rw [if_pos rfl] at e ⊢
    exact ⟨M, r0, ss, rw1, z, rw', I1, e, fun v2 H2 k2 I2 h2 => q v2 H2 (k1.trans k2) I2 h2⟩
  | false =>
    rw [if_neg Bool.false_ne_true] at e ⊢
    exact ⟨M, r0, ss, rw1, z, rw', I1, e, fun v2 H2 k2 I2 h2 => q v2 H2 (k1.trans k2) I2 h2⟩

/-! ### argument lists, displays -/
variable {ma : Mx (List Vl)}
theorem fa_nil : FA X P [] mNil := by
  refine PA.imp pa_nil ?_
  rintro σ H Q ⟨M, r0, ss, rw, z, rw', I, e, q⟩
  obtain ⟨rfl, rfl⟩ := pur_some e
  exact q [] H (KeepR.refl _ _) I .nil
theorem fa_cons (ha : FE X P e fa) (hr : FA X P es ma) (hs : starEach (e :: es) X.env = (false, eval e X.env) :: starEach es X.env := by rfl) : FA X P (e :: es) (mCons fa ma) := by
  refine PA.imp (pa_cons ha hr hs) ?_
  rintro σ H Q ⟨M, r0, ss, rw, z, rw', I, e, q⟩
  obtain ⟨x, rw1, e1, e⟩ := bnd_some e
  obtain ⟨xs, rw2, e2, e⟩ := bnd_some e
  obtain ⟨rfl, rfl⟩ := pur_some e
  exact ⟨M, r0, ss, rw, x, rw1, I, e1, fun v H1 k1 I1 hv => ⟨M, r0, ss, rw1, xs, _, I1, e2, fun vs H2 k2 I2 hs => q _ H2 (k1.trans k2) I2 (.cons (VR.mono k2.msk hv) hs)⟩⟩
/-- all data -/
def dats : List Vl → Option (List PyData)
  | [] => some []
  | .dat d :: xs => match dats xs with
    | some ds => some (d :: ds)
    | none => none
  | .hse _ _ :: _ => none
  | .dct _ :: _ => none
theorem dats_all {H : Hp} : ∀ {xs : List Vl} {ds : List PyData} {vs : List V}, dats xs = some ds → VRs P H vs xs → DRAll P.K H vs ds
  | [], _, _, e, h => by
    cases h
    cases e
    exact .nil
  | .dat d :: xs, _, _, e, h => by
    cases h with
    | cons h1 h2 =>
      unfold dats at e
      split at e
      next ds' e' =>
        cases e
        exact .cons h1 (dats_all e' h2)
      next => cases e
  | .hse _ _ :: _, _, _, e, _ => by cases e
  | .dct _ :: _, _, _, e, _ => by cases e
theorem sz_of {n : Nat} (h : n ≤ 100000) : n ≤ sizeLine := Nat.le_trans h (by decide)
theorem sz_lt {n : Nat} (h : n < 100000) : n < sizeLine := Nat.lt_of_lt_of_le h (by decide)
/-- a new object at p: its items seen where p is hidden, or not -/
theorem mk_new {S : Addr → Prop} {H : Hp} {p : Addr} {o : HO} (hp : H p = none) : Same (hdn S H) (hdn (fun a => S a ∨ a = p) (upd H p o)) := mk_same fun b u n e => by
  have nb : b ≠ p := ne_of_none e hp
  exact ⟨fun z => z.elim n nb, by rw [upd_ne nb]; exact e⟩
theorem mk_sub {S S' : Addr → Prop} {H : Hp} (h : ∀ a, S' a → S a) : Same (hdn S H) (hdn S' H) := mk_same fun b o n e => ⟨fun z => n (h b z), e⟩
theorem mk_at {S : Addr → Prop} {H : Hp} {p : Addr} {o : HO} (hn : ¬ S p) (h : H p = some o) : hdn S H p = some o := mk_some.mpr ⟨hn, h⟩
theorem not_S {S : Addr → Prop} {H : Hp} {p : Addr} (hS : ∀ a, S a → H a ≠ none) (hp : H p = none) : ¬ S p := fun z => hS p z hp
def mTup (ma : Mx (List Vl)) : Mx Vl := bnd ma fun xs => opt (match dats xs with
  | some ds => if ds.length ≤ 100000 then some (.dat (.tuple ds)) else none
  | none => none)
def mLst (ma : Mx (List Vl)) : Mx (List PyData) := bnd ma fun xs => opt (match dats xs with
  | some ds => if ds.length ≤ 100000 then some ds else none
  | none => none)
theorem fe_tup {x1} (h : FA X P es ma) : FE X P (.Tuple es x1 pos) (mTup ma) := by
  refine PE.imp (pe_tup h) ?_
  rintro σ H Q ⟨M, r0, ss, rw, z, rw', I, e, q⟩
  obtain ⟨xs, rw1, e1, e⟩ := bnd_some e
  obtain ⟨e2, rfl⟩ := opt_some e
  refine ⟨M, r0, ss, rw, xs, _, I, e1, fun vs H1 k1 I1 hv => ?_⟩
  split at e2
  next ds ed =>
    split at e2
    next hl =>
      cases e2
      have ha := dats_all ed hv
      refine ⟨by rw [DRAll.length ha]; exact sz_of hl, fun p hp => ?_⟩
      have s3 : Same H1 (upd H1 p (.tup vs)) := upd_same' hp
      refine q _ _ (k1.trans (KeepR.of s3)) (I1.grow s3) ?_
      exact DR.tup (SqT.of (mk_at (not_S I1.alloc hp) upd_same)) (drAll_mono (mk_grow s3) _ _ ha)
    next => cases e2
  next => cases e2
abbrev FL (X : Cx) (P : Pm) (e : Expr) (m : Mx (List PyData)) : Prop := PE X e (tL P m)
theorem fl_lst (h : FA X P es ma) : FL X P (.List es pos) (mLst ma) := by
  refine PE.imp (pe_lst h) ?_
  rintro σ H Q ⟨M, r0, ss, rw, z, rw', I, e, q⟩
  obtain ⟨xs, rw1, e1, e⟩ := bnd_some e
  obtain ⟨e2, rfl⟩ := opt_some e
  refine ⟨M, r0, ss, rw, xs, _, I, e1, fun vs H1 k1 I1 hv => ?_⟩
  split at e2
  next ds ed =>
    split at e2
    next hl =>
      cases e2
      have ha := dats_all ed hv
      refine ⟨by rw [DRAll.length ha]; exact sz_of hl, fun p hp => ?_⟩
      have s3 : Same H1 (upd H1 p (.lst vs)) := upd_same' hp
      have hp0 : H p = none := by
        cases z : H p with
        | none => rfl
        | some o =>
          by_cases hr : r0 = some p
          · obtain ⟨_, us, e, _⟩ := I1.rk p hr
            rw [hp] at e; cases e
          · rw [k1 p o z hr] at hp; cases hp
      have I2 := I1.hideS s3 hp (by rw [upd_same]; simp)
      refine q p vs _ (k1.trans (KeepR.of s3)) I2 hp0 upd_same (drAll_mono (mk_same fun b u n h => ?_) _ _ ha)
      have nb : b ≠ p := ne_of_none h hp
      refine ⟨fun z => ?_, s3 b u h⟩
      rcases z with (z | z) | z | z
      · exact n (.inl z)
      · exact nb z
      · exact n (.inr (.inl z))
      · exact n (.inr (.inr z))
    next => cases e2
  next => cases e2
/-- a new list as a value -/
def mList (m : Mx (List PyData)) : Mx Vl := bnd m fun ds => pur (.dat (.list ds))
theorem fe_list {m : Mx (List PyData)} (h : FL X P e m) : FE X P e (mList m) := by
  refine PE.imp h ?_
  rintro σ H Q ⟨M, r0, ss, rw, z, rw', I, e, q⟩
  obtain ⟨ds, rw1, e1, e⟩ := bnd_some e
  obtain ⟨rfl, rfl⟩ := pur_some e
  refine ⟨M, r0, ss, rw, ds, _, I, e1, fun p vs H1 k1 I1 hp h1 ha => q _ H1 k1 I1.unhide ?_⟩
  refine DR.lst (mk_at (not_S I.alloc hp) h1) (drAll_mono (mk_sub fun a z => ?_) _ _ ha)
  rcases z with z | z | z
  · exact .inl (.inl z)
  · exact .inr (.inl z)
  · exact .inr (.inr z)
end
end FL
/-! The operations on data. -/
namespace FL
open PySem L2

section
variable {P : Pm} {X : Cx}
theorem OpR.or {X : Cx} {f : Value → Value → Sem Value} {r r' : R2} (h : OpR X f r) (h' : OpR X f r') : OpR X f (fun x y H Q => r x y H Q ∨ r' x y H Q) := by
  intro pins s σ H x y v u Q I rx ry q
  rcases q with q | q
  · exact h pins s σ H x y v u Q I rx ry q
  · exact h' pins s σ H x y v u Q I rx ry q
theorem CallR.or {X : Cx} {f : Value} {r r' : List V → Hp → VK → Prop} (h : CallR X f r) (h' : CallR X f r') : CallR X f (fun x H Q => r x H Q ∨ r' x H Q) := by
  intro pins s σ H x v Q I rx q
  rcases q with q | q
  · exact h pins s σ H x v Q I rx q
  · exact h' pins s σ H x v Q I rx q
theorem SlR.or' {X : Cx} {r r' : V → Option Int → Option Int → Hp → VK → Prop} (h : SlR X r) (h' : SlR X r') : SlR X (fun x lo hi H Q => r x lo hi H Q ∨ r' x lo hi H Q) := L2.SlR.or h h'

/-- a value's first look: what the data says of it -/
theorem vr_int {H : Hp} {v : V} {i : Int} (h : VR P H v (.dat (.int i))) : v = .int i := by
  have h : DR P.K H v (.int i) := h
  cases h
  rfl
theorem vr_str {H : Hp} {v : V} {i : Str} (h : VR P H v (.dat (.str i))) : v = .str i := by
  have h : DR P.K H v (.str i) := h
  cases h
  rfl
theorem vr_lst {H : Hp} {v : V} {ds : List PyData} (h : VR P H v (.dat (.list ds))) : ∃ a vs, v = .ref a ∧ H a = some (.lst vs) ∧ DRAll P.K H vs ds := by
  have h : DR P.K H v (.list ds) := h
  cases h with
  | lst a b => exact ⟨_, _, rfl, a, b⟩
theorem vr_tup {H : Hp} {v : V} {ds : List PyData} (h : VR P H v (.dat (.tuple ds))) : ∃ a vs, v = .ref a ∧ SqT P.K H a vs ∧ DRAll P.K H vs ds := by
  have h : DR P.K H v (.tuple ds) := h
  cases h with
  | tup a b => exact ⟨_, _, rfl, a, b⟩
/-- a new tuple, a new list -/
theorem new_tup {S : Addr → Prop} {H : Hp} {vs : List V} {ds : List PyData} (hS : ∀ a, S a → H a ≠ none) (h : DRAll P.K (hdn S H) vs ds) {p : Addr} (hp : H p = none) :
    Same H (upd H p (.tup vs)) ∧ VR P (hdn S (upd H p (.tup vs))) (.ref p) (.dat (.tuple ds)) := by
  have s3 : Same H (upd H p (.tup vs)) := upd_same' hp
  exact ⟨s3, DR.tup (SqT.of (mk_at (not_S hS hp) upd_same)) (drAll_mono (mk_grow s3) _ _ h)⟩
theorem new_lst {S : Addr → Prop} {H : Hp} {vs : List V} {ds : List PyData} (hS : ∀ a, S a → H a ≠ none) (h : DRAll P.K (hdn S H) vs ds) {p : Addr} (hp : H p = none) :
    Same H (upd H p (.lst vs)) ∧ VR P (hdn S (upd H p (.lst vs))) (.ref p) (.dat (.list ds)) := by
  have s3 : Same H (upd H p (.lst vs)) := upd_same' hp
  exact ⟨s3, DR.lst (mk_at (not_S hS hp) upd_same) (drAll_mono (mk_grow s3) _ _ h)⟩

/-! ### + - * // % -/
def addD : Vl → Vl → Option Vl
  | .dat (.int i), .dat (.int j) => some (.dat (.int (i + j)))
  | .dat (.str a), .dat (.str b) => if a.length + b.length ≤ 100000 then some (.dat (.str (a ++ b))) else none
  | .dat (.tuple xs), .dat (.tuple ys) => if xs.length + ys.length ≤ 100000 then some (.dat (.tuple (xs ++ ys))) else none
  | .dat (.list xs), .dat (.list ys) => if xs.length + ys.length ≤ 100000 then some (.dat (.list (xs ++ ys))) else none
  | _, _ => none
def rAddD (K : PySem.W.Frag) : R2 := fun x y H Q => (rI0 fun i j => .int (i + j)) x y H Q ∨ (∃ i j, x = .str i ∧ y = .str j ∧ i.length + j.length ≤ sizeLine ∧ Q (.str (i ++ j)) H) ∨ rCatA K x y H Q ∨ rCat x y H Q
theorem op_addD : OpR X (binaryOp .Add) (rAddD X.K) := OpR.or op_add (OpR.or op_add_str (OpR.or op_catA op_cat))
theorem ok_add : ROk P (rAddD P.K) addD := by
  intro S H x y dx dy dz Q hS hx hy e q
  unfold addD at e
  split at e
  next i j =>
    cases e
    rw [vr_int hx, vr_int hy]
    exact .inl ⟨i, j, rfl, rfl, q _ H (Same.refl _) (DR.int _)⟩
  next a b =>
    split at e
    next hl =>
      cases e
      rw [vr_str hx, vr_str hy]
      exact .inr (.inl ⟨a, b, rfl, rfl, sz_of hl, q _ H (Same.refl _) (DR.str _)⟩)
    next => cases e
  next xs ys =>
    split at e
    next hl =>
      cases e
      obtain ⟨a, vs, rfl, h1, h2⟩ := vr_tup hx
      obtain ⟨b, us, rfl, g1, g2⟩ := vr_tup hy
      refine .inr (.inr (.inl ⟨a, b, vs, us, rfl, rfl, sqT_mono (mk_le S H) h1, sqT_mono (mk_le S H) g1, by rw [DRAll.length h2, DRAll.length g2]; exact sz_of hl, fun z => ?_, fun _ z => ?_, fun _ _ p hp => ?_⟩))
      · subst z
        have : xs = [] := by
          have := DRAll.length h2
          simpa using this.symm
        subst this
        exact q _ H (Same.refl _) hy
      · subst z
        have : ys = [] := by
          have := DRAll.length g2
          simpa using this.symm
        subst this
        rw [List.append_nil] at q
        exact q _ H (Same.refl _) hx
      · obtain ⟨s3, n⟩ := new_tup (P := P) hS (DRAll.append h2 g2) hp
        exact q _ _ s3 n
    next => cases e
  next xs ys =>
    split at e
    next hl =>
      cases e
      obtain ⟨a, vs, rfl, h1, h2⟩ := vr_lst hx
      obtain ⟨b, us, rfl, g1, g2⟩ := vr_lst hy
      refine .inr (.inr (.inr ⟨a, b, vs, us, rfl, rfl, mk_le S H _ _ h1, mk_le S H _ _ g1, by rw [DRAll.length h2, DRAll.length g2]; exact sz_of hl, fun p hp => ?_⟩))
      obtain ⟨s3, n⟩ := new_lst (P := P) hS (DRAll.append h2 g2) hp
      exact q _ _ s3 n
    next => cases e
  next => cases e
def i2 (g : Int → Int → Option PyData) : Vl → Vl → Option Vl
  | .dat (.int i), .dat (.int j) => match g i j with
    | some d => some (.dat d)
    | none => none
  | _, _ => none
theorem ok_i2 {C : Int → Int → Prop} {f : Int → Int → V} {g : Int → Int → Option PyData} (h : ∀ i j d, g i j = some d → C i j ∧ ∀ H, DR P.K H (f i j) d) : ROk P (rI C f) (i2 g) := by
  intro S H x y dx dy dz Q hS hx hy e q
  unfold i2 at e
  split at e
  next i j =>
    split at e
    next d ed =>
      cases e
      rw [vr_int hx, vr_int hy]
      obtain ⟨c, hd⟩ := h i j d ed
      exact ⟨i, j, rfl, rfl, c, q _ H (Same.refl _) (hd _)⟩
    next => cases e
  next => cases e
theorem ok_i20 {f : Int → Int → V} {g : Int → Int → Option PyData} (h : ∀ i j d, g i j = some d → ∀ H, DR P.K H (f i j) d) : ROk P (rI0 f) (i2 g) := by
  intro S H x y dx dy dz Q hS hx hy e q
  unfold i2 at e
  split at e
  next i j =>
    split at e
    next d ed =>
      cases e
      rw [vr_int hx, vr_int hy]
      exact ⟨i, j, rfl, rfl, q _ H (Same.refl _) (h i j d ed _)⟩
    next => cases e
  next => cases e
def subI (i j : Int) : Option PyData := some (.int (i - j))
def subD := i2 subI
theorem ok_sub : ROk P (rI0 fun i j => .int (i - j)) subD := ok_i20 fun i j d e H => by
  cases e
  exact .int _
def fdivI (i j : Int) : Option PyData := if 0 < j ∧ j < 1073741824 then some (.int (i / j)) else none
def fdivD := i2 fdivI
theorem ok_fdiv : ROk P (rI CDiv fun i j => .int (i / j)) fdivD := ok_i2 fun i j d e => by
  unfold fdivI at e
  split at e
  next h => cases e; exact ⟨h, fun _ => .int _⟩
  next => cases e
def modI (i j : Int) : Option PyData := if 0 < j then some (.int (i % j)) else none
def modD := i2 modI
theorem ok_mod : ROk P (rI (fun _ j => 0 < j) fun i j => .int (i % j)) modD := ok_i2 fun i j d e => by
  unfold modI at e
  split at e
  next h => cases e; exact ⟨h, fun _ => .int _⟩
  next => cases e
/-- int * int, one of them small; list * int -/
def mulD : Vl → Vl → Option Vl
  | .dat (.int i), .dat (.int j) => if i.natAbs < 2 ^ 64 ∨ j.natAbs < 2 ^ 64 then some (.dat (.int (i * j))) else none
  | .dat (.list xs), .dat (.int k) => if 0 ≤ k ∧ k ≤ 1000 ∧ xs.length ≤ 100 then some (.dat (.list (List.replicate k.toNat xs).flatten)) else none
  | _, _ => none
theorem flat_all {K : PySem.W.Frag} {H : Hp} {vs : List V} {ds : List PyData} (h : DRAll K H vs ds) : ∀ n, DRAll K H (List.replicate n vs).flatten (List.replicate n ds).flatten
  | 0 => .nil
  | n + 1 => by
    rw [List.replicate_succ, List.replicate_succ, List.flatten_cons, List.flatten_cons]
    exact DRAll.append h (flat_all h n)
def rMulD : R2 := fun x y H Q => (rI CMul fun i j => .int (i * j)) x y H Q ∨ rRep x y H Q
theorem op_mulD : OpR X (binaryOp .Mult) rMulD := OpR.or op_mul op_rep
theorem ok_mul : ROk P rMulD mulD := by
  intro S H x y dx dy dz Q hS hx hy e q
  unfold mulD at e
  split at e
  next i j =>
    split at e
    next h =>
      cases e
      rw [vr_int hx, vr_int hy]
      refine .inl ⟨i, j, rfl, rfl, ?_, q _ H (Same.refl _) (DR.int _)⟩
      rcases h with h | h
      · exact .inl (by omega)
      · exact .inr (by omega)
    next => cases e
  next xs k =>
    split at e
    next h =>
      cases e
      rw [vr_int hy]
      obtain ⟨a, vs, rfl, h1, h2⟩ := vr_lst hx
      obtain ⟨k0, k1, k2⟩ := h
      have hl := DRAll.length h2
      have hsz : vs.length * k.toNat ≤ 100 * 1000 := Nat.mul_le_mul (by omega) (by omega)
      refine .inr ⟨a, k, vs, rfl, rfl, mk_le S H _ _ h1, by omega, by omega, sz_of hsz, fun p hp => ?_⟩
      obtain ⟨s3, n⟩ := new_lst (P := P) hS (flat_all h2 k.toNat) hp
      exact q _ _ s3 n
    next => cases e
  next => cases e
def negD : Vl → Option Vl
  | .dat (.int i) => some (.dat (.int (-i)))
  | _ => none
theorem ok_neg : UOk P (rU fun i => .int (-i)) negD := by
  intro S H x dx dz Q hS hx e q
  unfold negD at e
  split at e
  next i =>
    cases e
    rw [vr_int hx]
    exact ⟨i, rfl, q _ H (Same.refl _) (DR.int _)⟩
  next => cases e

/-! ### comparisons -/
def ltI (i j : Int) : Option PyData := some (.bool (decide (i < j)))
def leI (i j : Int) : Option PyData := some (.bool (decide (i ≤ j)))
def gtI (i j : Int) : Option PyData := some (.bool (decide (j < i)))
def geI (i j : Int) : Option PyData := some (.bool (decide (j ≤ i)))
def ltD := i2 ltI
def leD := i2 leI
def gtD := i2 gtI
def geD := i2 geI
theorem ok_lt : ROk P (rI0 fun i j => .bl (decide (i < j))) ltD := ok_i20 fun i j d e H => by cases e; exact .bl _
theorem ok_le : ROk P (rI0 fun i j => .bl (decide (i ≤ j))) leD := ok_i20 fun i j d e H => by cases e; exact .bl _
theorem ok_gt : ROk P (rI0 fun i j => .bl (decide (j < i))) gtD := ok_i20 fun i j d e H => by cases e; exact .bl _
theorem ok_ge : ROk P (rI0 fun i j => .bl (decide (j ≤ i))) geD := ok_i20 fun i j d e H => by cases e; exact .bl _
/-- flat data as a value -/
def dV : PyData → Option V
  | .none => some .non
  | .bool b => some (.bl b)
  | .int i => some (.int i)
  | .str x => some (.str x)
  | _ => none
theorem dv_dr {K : PySem.W.Frag} {H : Hp} {d : PyData} {v w : V} (h : DR K H v d) (e : dV d = some w) : v = w := by
  cases h <;> first
    | (cases e; rfl)
    | cases e
/-- are they equal: flat ones by value, else whole -/
def eqO (d e : PyData) : Option Bool := match dV d, dV e with
  | some v, some w => if scal v w = true then some (decide (v = w)) else none
  | _, _ => if SeqAt.shaped d = true ∧ SeqAt.shaped e = true then some (PyData.eqv d e) else none
def eqD : Vl → Vl → Option Vl
  | .dat d, .dat e => match eqO d e with
    | some b => some (.dat (.bool b))
    | none => none
  | _, _ => none
def neD : Vl → Vl → Option Vl
  | .dat d, .dat e => match eqO d e with
    | some b => some (.dat (.bool (!b)))
    | none => none
  | _, _ => none
def rEqDD (K : PySem.W.Frag) : R2 := fun x y H Q => rEq x y H Q ∨ rEqD K x y H Q
def rNeDD (K : PySem.W.Frag) : R2 := fun x y H Q => rNe x y H Q ∨ rNeD K x y H Q
theorem op_eqDD (hu : X.A.units + 64 < cLine) : OpR X (compareOp .Eq) (rEqDD X.K) := OpR.or op_eq (op_eqD hu)
theorem op_neDD (hu : X.A.units + 64 < cLine) : OpR X (compareOp .NotEq) (rNeDD X.K) := OpR.or op_ne (op_neD hu)
theorem eqO_cases {d e : PyData} {b : Bool} (h : eqO d e = some b) : (∃ v w, dV d = some v ∧ dV e = some w ∧ scal v w = true ∧ b = decide (v = w)) ∨ (SeqAt.shaped d = true ∧ SeqAt.shaped e = true ∧ b = PyData.eqv d e) := by
  unfold eqO at h
  split at h
  next v w h1 h2 =>
    split at h
    next hs => cases h; exact .inl ⟨v, w, h1, h2, hs, rfl⟩
    next => cases h
  next =>
    split at h
    next hs => cases h; exact .inr ⟨hs.1, hs.2, rfl⟩
    next => cases h
theorem ok_eq : ROk P (rEqDD P.K) eqD := by
  intro S H x y dx dy dz Q hS hx hy e q
  unfold eqD at e
  split at e
  next d d' =>
    split at e
    next b eb =>
      cases e
      have hx : DR P.K (hdn S H) x d := hx
      have hy : DR P.K (hdn S H) y d' := hy
      rcases eqO_cases eb with ⟨v, w, h1, h2, h3, rfl⟩ | ⟨h1, h2, rfl⟩
      · rw [dv_dr hx h1, dv_dr hy h2]
        exact .inl ⟨h3, q _ H (Same.refl _) (DR.bl _)⟩
      · exact .inr ⟨d, d', dr_dp _ _ (dr_mono (mk_le S H) _ _ hx), dr_dp _ _ (dr_mono (mk_le S H) _ _ hy), h1, h2, q _ H (Same.refl _) (DR.bl _)⟩
    next => cases e
  next => cases e
theorem ok_ne : ROk P (rNeDD P.K) neD := by
  intro S H x y dx dy dz Q hS hx hy e q
  unfold neD at e
  split at e
  next d d' =>
    split at e
    next b eb =>
      cases e
      have hx : DR P.K (hdn S H) x d := hx
      have hy : DR P.K (hdn S H) y d' := hy
      rcases eqO_cases eb with ⟨v, w, h1, h2, h3, rfl⟩ | ⟨h1, h2, rfl⟩
      · rw [dv_dr hx h1, dv_dr hy h2]
        exact .inl ⟨h3, q _ H (Same.refl _) (DR.bl _)⟩
      · exact .inr ⟨d, d', dr_dp _ _ (dr_mono (mk_le S H) _ _ hx), dr_dp _ _ (dr_mono (mk_le S H) _ _ hy), h1, h2, q _ H (Same.refl _) (DR.bl _)⟩
    next => cases e
  next => cases e
/-- is it None -/
def isND : Vl → Vl → Option Vl
  | .dat d, .dat .none => some (.dat (.bool (match d with
    | .none => true
    | _ => false)))
  | .hse _ _, .dat .none => some (.dat (.bool false))
  | _, _ => none
def notND : Vl → Vl → Option Vl
  | .dat d, .dat .none => some (.dat (.bool (match d with
    | .none => false
    | _ => true)))
  | .hse _ _, .dat .none => some (.dat (.bool true))
  | _, _ => none
theorem ok_isN : ROk P (fun x y H Q => y = .non ∧ Q (.bl (decide (x = .non))) H) isND := by
  intro S H x y dx dy dz Q hS hx hy e q
  unfold isND at e
  split at e
  next d =>
    cases e
    have hy : DR P.K (hdn S H) y .none := hy
    have hx : DR P.K (hdn S H) x d := hx
    cases hy
    refine ⟨rfl, ?_⟩
    cases hx <;> exact q _ H (Same.refl _) (DR.bl _)
  next t s =>
    cases e
    have hy : DR P.K (hdn S H) y .none := hy
    obtain ⟨a, rfl, _⟩ := hx
    cases hy
    exact ⟨rfl, q _ H (Same.refl _) (DR.bl _)⟩
  next => cases e
theorem ok_notN : ROk P (fun x y H Q => y = .non ∧ Q (.bl (!decide (x = .non))) H) notND := by
  intro S H x y dx dy dz Q hS hx hy e q
  unfold notND at e
  split at e
  next d =>
    cases e
    have hy : DR P.K (hdn S H) y .none := hy
    have hx : DR P.K (hdn S H) x d := hx
    cases hy
    refine ⟨rfl, ?_⟩
    cases hx <;> exact q _ H (Same.refl _) (DR.bl _)
  next t s =>
    cases e
    have hy : DR P.K (hdn S H) y .none := hy
    obtain ⟨a, rfl, _⟩ := hx
    cases hy
    exact ⟨rfl, q _ H (Same.refl _) (DR.bl _)⟩
  next => cases e

/-! ### in, not in -/
def dVs : List PyData → Option (List V)
  | [] => some []
  | d :: ds => match dV d, dVs ds with
    | some v, some vs => some (v :: vs)
    | _, _ => none
theorem dvs_dr {K : PySem.W.Frag} {H : Hp} : ∀ {ds : List PyData} {vs ws : List V}, DRAll K H vs ds → dVs ds = some ws → vs = ws ∧ ws.all flatV = true
  | [], _, _, h, e => by
    cases h
    cases e
    exact ⟨rfl, rfl⟩
  | d :: ds, _, _, h, e => by
    cases h with
    | cons h1 h2 =>
      unfold dVs at e
      split at e
      next v vs e1 e2 =>
        cases e
        obtain ⟨q1, q2⟩ := dvs_dr h2 e2
        subst q1
        have := dv_dr h1 e1
        subst this
        refine ⟨rfl, ?_⟩
        rw [List.all_cons, q2, Bool.and_true]
        cases h1 <;> first
          | rfl
          | cases e1
      next => cases e
theorem flat_dv {K : PySem.W.Frag} {H : Hp} {d : PyData} {v w : V} (h : DR K H v d) (e : dV d = some w) : flatV w = true := by
  cases h <;> first
    | (cases e; rfl)
    | cases e
/-- is d in e: a sign in a text; in a flat tuple or list; in a list of any -/
def inO (d e : PyData) : Option Bool := match e with
  | .str z => match d with
    | .str x => if x.cps.size = 1 then some (decide (x.cps.getD 0 0 ∈ z.cps.toList)) else none
    | _ => none
  | .tuple ds => match dV d, dVs ds with
    | some v, some vs => some (inV v vs)
    | _, _ => if SeqAt.shaped d = true ∧ SeqAt.shaped (.tuple ds) = true then some (ds.any fun z => PyData.eqv z d) else none
  | .list ds => match dV d, dVs ds with
    | some v, some vs => some (inV v vs)
    | _, _ => if SeqAt.shaped d = true ∧ SeqAt.shaped (.list ds) = true then some (ds.any fun z => PyData.eqv z d) else none
  | _ => none
def inD : Vl → Vl → Option Vl
  | .dat d, .dat e => match inO d e with
    | some b => some (.dat (.bool b))
    | none => none
  | _, _ => none
def ninD : Vl → Vl → Option Vl
  | .dat d, .dat e => match inO d e with
    | some b => some (.dat (.bool (!b)))
    | none => none
  | _, _ => none
/-- in, not in: a tuple of any data -/
def rInTu (K : PySem.W.Frag) (neg : Bool) : R2 := fun x y H Q => ∃ d ds, Dp K H x d ∧ Dp K H y (.tuple ds) ∧ SeqAt.shaped d = true ∧ SeqAt.shaped (.tuple ds) = true ∧ Q (.bl (xor neg (ds.any fun z => PyData.eqv z d))) H
theorem op_inTu (hu : X.A.units + 65 < cLine) : OpR X (compareOp .In) (rInTu X.K false) := by
  rintro pins s σ H x y v u Q I rx ry ⟨d, ds, hd, he, sd, se, q⟩
  obtain ⟨as, r1⟩ := Dp.reads I d x v hd rx
  obtain ⟨bs, r2⟩ := Dp.reads I (.tuple ds) y u he ry
  rw [Bool.false_xor] at q
  refine SeqAt.in_tuple_reads r2 r1 (SeqAt.canLay_of_shaped se) (SeqAt.canLay_of_shaped sd) (PyProof.Rows.room_in_shaped sd hu) ?_
  exact ⟨.bl _, H, I, rfl, q⟩
theorem op_ninTu (hu : X.A.units + 65 < cLine) : OpR X (compareOp .NotIn) (rInTu X.K true) := by
  rintro pins s σ H x y v u Q I rx ry ⟨d, ds, hd, he, sd, se, q⟩
  obtain ⟨as, r1⟩ := Dp.reads I d x v hd rx
  obtain ⟨bs, r2⟩ := Dp.reads I (.tuple ds) y u he ry
  rw [Bool.true_xor] at q
  refine SeqAt.notIn_tuple_reads r2 r1 (SeqAt.canLay_of_shaped se) (SeqAt.canLay_of_shaped sd) (PyProof.Rows.room_in_shaped sd hu) ?_
  exact ⟨.bl _, H, I, rfl, q⟩
def rInDD (K : PySem.W.Frag) : R2 := fun x y H Q => (∃ (c : Nat) (z : Str), x = .str ⟨#[c]⟩ ∧ y = .str z ∧ Q (.bl (decide (c ∈ z.cps.toList))) H) ∨ rIn K false x y H Q ∨ rInD K x y H Q ∨ rInTu K false x y H Q
def rNinDD (K : PySem.W.Frag) : R2 := fun x y H Q => (∃ (c : Nat) (z : Str), x = .str ⟨#[c]⟩ ∧ y = .str z ∧ Q (.bl (!decide (c ∈ z.cps.toList))) H) ∨ rIn K true x y H Q ∨ rNotInD K x y H Q ∨ rInTu K true x y H Q
theorem op_inDD (hu : X.A.units + 65 < cLine) : OpR X (compareOp .In) (rInDD X.K) := OpR.or op_in_sign (OpR.or op_in_seq (OpR.or (op_inD hu) (op_inTu hu)))
theorem op_ninDD (hu : X.A.units + 65 < cLine) : OpR X (compareOp .NotIn) (rNinDD X.K) := OpR.or op_notIn_sign (OpR.or op_notIn_seq (OpR.or (op_notInD hu) (op_ninTu hu)))
theorem one_sign {x : Str} (h : x.cps.size = 1) : x = ⟨#[x.cps.getD 0 0]⟩ := by
  obtain ⟨a⟩ := x
  obtain ⟨l⟩ := a
  match l, h with
  | [c], _ => rfl
theorem inO_cases {d e : PyData} {b : Bool} (h : inO d e = some b) :
    (∃ x z, d = .str x ∧ e = .str z ∧ x.cps.size = 1 ∧ b = decide (x.cps.getD 0 0 ∈ z.cps.toList)) ∨
    (∃ ds v vs, (e = .tuple ds ∨ e = .list ds) ∧ dV d = some v ∧ dVs ds = some vs ∧ b = inV v vs) ∨
    (∃ ds, (e = .list ds ∨ e = .tuple ds) ∧ SeqAt.shaped d = true ∧ SeqAt.shaped e = true ∧ b = ds.any fun z => PyData.eqv z d) := by
  unfold inO at h
  split at h
  next z =>
    split at h
    next x =>
      split at h
      next hs => cases h; exact .inl ⟨x, z, rfl, rfl, hs, rfl⟩
      next => cases h
    next => cases h
  next ds =>
    split at h
    next v vs e1 e2 => cases h; exact .inr (.inl ⟨ds, v, vs, .inl rfl, e1, e2, rfl⟩)
    next =>
      split at h
      next hs => cases h; exact .inr (.inr ⟨ds, .inr rfl, hs.1, hs.2, rfl⟩)
      next => cases h
  next ds =>
    split at h
    next v vs e1 e2 => cases h; exact .inr (.inl ⟨ds, v, vs, .inr rfl, e1, e2, rfl⟩)
    next =>
      split at h
      next hs => cases h; exact .inr (.inr ⟨ds, .inl rfl, hs.1, hs.2, rfl⟩)
      next => cases h
  next => cases h
theorem sq_of_dr {K : PySem.W.Frag} {H : Hp} {y : V} {e : PyData} {ds : List PyData} (h : DR K H y e) (he : e = .tuple ds ∨ e = .list ds) : ∃ p vs, y = .ref p ∧ (SqL K H p vs ∨ SqT K H p vs) ∧ DRAll K H vs ds := by
  rcases he with rfl | rfl
  · cases h with
    | tup a b => exact ⟨_, _, rfl, .inr a, b⟩
  · cases h with
    | lst a b => exact ⟨_, _, rfl, .inl (SqL.of a), b⟩
theorem ok_in : ROk P (rInDD P.K) inD := by
  intro S H x y dx dy dz Q hS hx hy e q
  unfold inD at e
  split at e
  next d d' =>
    split at e
    next b eb =>
      cases e
      have hx : DR P.K H x d := dr_mono (mk_le S H) _ _ hx
      have hy : DR P.K H y d' := dr_mono (mk_le S H) _ _ hy
      rcases inO_cases eb with ⟨a, z, rfl, rfl, h1, rfl⟩ | ⟨ds, v, vs, he, h1, h2, rfl⟩ | ⟨ds, hd | hd, h1, h2, rfl⟩
      · cases hx
        cases hy
        exact .inl ⟨_, z, by rw [← one_sign h1], rfl, q _ H (Same.refl _) (DR.bl _)⟩
      · obtain ⟨p, us, rfl, g1, g2⟩ := sq_of_dr hy he
        obtain ⟨rfl, g3⟩ := dvs_dr g2 h2
        have := dv_dr hx h1
        subst this
        exact .inr (.inl ⟨p, us, rfl, g1, flat_dv hx h1, g3, q _ H (Same.refl _) (DR.bl _)⟩)
      · subst hd
        exact .inr (.inr (.inl ⟨d, ds, dr_dp _ _ hx, dr_dp _ _ hy, h1, h2, q _ H (Same.refl _) (DR.bl _)⟩))
      · subst hd
        exact .inr (.inr (.inr ⟨d, ds, dr_dp _ _ hx, dr_dp _ _ hy, h1, h2, by first | (rw [Bool.false_xor]; exact q _ H (Same.refl _) (DR.bl _)) | (rw [Bool.true_xor]; exact q _ H (Same.refl _) (DR.bl _))⟩))
    next => cases e
  next => cases e
theorem ok_nin : ROk P (rNinDD P.K) ninD := by
  intro S H x y dx dy dz Q hS hx hy e q
  unfold ninD at e
  split at e
  next d d' =>
    split at e
    next b eb =>
      cases e
      have hx : DR P.K H x d := dr_mono (mk_le S H) _ _ hx
      have hy : DR P.K H y d' := dr_mono (mk_le S H) _ _ hy
      rcases inO_cases eb with ⟨a, z, rfl, rfl, h1, rfl⟩ | ⟨ds, v, vs, he, h1, h2, rfl⟩ | ⟨ds, hd | hd, h1, h2, rfl⟩
      · cases hx
        cases hy
        exact .inl ⟨_, z, by rw [← one_sign h1], rfl, q _ H (Same.refl _) (DR.bl _)⟩
      · obtain ⟨p, us, rfl, g1, g2⟩ := sq_of_dr hy he
        obtain ⟨rfl, g3⟩ := dvs_dr g2 h2
        have := dv_dr hx h1
        subst this
        exact .inr (.inl ⟨p, us, rfl, g1, flat_dv hx h1, g3, q _ H (Same.refl _) (DR.bl _)⟩)
      · subst hd
        exact .inr (.inr (.inl ⟨d, ds, dr_dp _ _ hx, dr_dp _ _ hy, h1, h2, q _ H (Same.refl _) (DR.bl _)⟩))
      · subst hd
        exact .inr (.inr (.inr ⟨d, ds, dr_dp _ _ hx, dr_dp _ _ hy, h1, h2, by first | (rw [Bool.false_xor]; exact q _ H (Same.refl _) (DR.bl _)) | (rw [Bool.true_xor]; exact q _ H (Same.refl _) (DR.bl _))⟩))
    next => cases e
  next => cases e

/-! ### subscripts, slices -/
def ixD : Vl → Vl → Option Vl
  | .dat (.list ds), .dat (.int i) => match atI ds i with
    | some d => some (.dat d)
    | none => none
  | .dat (.tuple ds), .dat (.int i) => match atI ds i with
    | some d => some (.dat d)
    | none => none
  | .dat (.str z), .dat (.int i) => if z.length ≤ 100000 then match atI z.cps.toList i with
      | some c => some (.dat (.str ⟨#[c]⟩))
      | none => none
    else none
  | _, _ => none
theorem atI_all {K : PySem.W.Frag} {H : Hp} {vs : List V} {ds : List PyData} {i : Int} {d : PyData} (h : DRAll K H vs ds) (e : atI ds i = some d) : ∃ v, atI vs i = some v ∧ DR K H v d := by
  unfold atI at e ⊢
  rw [DRAll.length h]
  cases q : ixN ds.length i with
  | none => rw [q] at e; cases e
  | some j =>
    rw [q] at e
    exact DRAll.get h e
theorem ok_ix : ROk P (rIx P.K) ixD := by
  intro S H x y dx dy dz Q hS hx hy e q
  unfold ixD at e
  split at e
  next ds i =>
    split at e
    next d ed =>
      cases e
      rw [vr_int hy]
      obtain ⟨a, vs, rfl, h1, h2⟩ := vr_lst hx
      obtain ⟨v, e1, e2⟩ := atI_all h2 ed
      exact .inl ⟨a, vs, i, v, rfl, rfl, SqL.of (mk_le S H _ _ h1), e1, q _ H (Same.refl _) e2⟩
    next => cases e
  next ds i =>
    split at e
    next d ed =>
      cases e
      rw [vr_int hy]
      obtain ⟨a, vs, rfl, h1, h2⟩ := vr_tup hx
      obtain ⟨v, e1, e2⟩ := atI_all h2 ed
      exact .inr (.inl ⟨a, vs, i, v, rfl, rfl, sqT_mono (mk_le S H) h1, e1, q _ H (Same.refl _) e2⟩)
    next => cases e
  next z i =>
    split at e
    next hl =>
      split at e
      next c ec =>
        cases e
        rw [vr_int hy, vr_str hx]
        exact .inr (.inr ⟨z, i, c, rfl, rfl, sz_of hl, ec, q _ H (Same.refl _) (DR.str _)⟩)
      next => cases e
    next => cases e
  next => cases e
theorem fe_ix {a b : Expr} {fa fb : Mx Vl} {pos : Pos} (ha : FE X P a fa) (hb : FE X P b fb) (hK : X.K = P.K := by rfl) (hs : PlainIx b := by exact (fun _ _ => rfl)) : FE X P (.Subscript a b pos) (m2 ixD fa fb) :=
  PE.imp (pe_ix ix_seq ha hb hs) (by rw [hK]; exact tE_op ok_ix)
/-- the items from lo to hi -/
def cutD {α : Type} (xs : List α) (lo hi : Option Int) : List α := (xs.drop (HT.sIx xs.length 0 lo)).take (HT.sIx xs.length xs.length hi - HT.sIx xs.length 0 lo)
def slD : Vl → Option Int → Option Int → Option Vl
  | .dat (.list ds), lo, hi => some (.dat (.list (cutD ds lo hi)))
  | .dat (.tuple ds), lo, hi => some (.dat (.tuple (cutD ds lo hi)))
  | .dat (.str z), lo, hi => if z.length ≤ 100000 then some (.dat (.str (cutS z lo hi))) else none
  | _, _, _ => none
def mSl (fa : Mx Vl) (fl fh : Mx (Option Int)) : Mx Vl := bnd fa fun x => bnd fl fun l => bnd fh fun h => opt (slD x l h)
def mSome (fa : Mx Vl) : Mx (Option Int) := bnd fa fun x => opt (match x with
  | .dat (.int i) => some (some i)
  | _ => none)
def mNone : Mx (Option Int) := pur none
theorem fo_none : PO X none (tO P mNone) := by
  refine PO.imp po_none ?_
  rintro σ H Q ⟨M, r0, ss, rw, z, rw', I, e, q⟩
  obtain ⟨rfl, rfl⟩ := pur_some e
  exact q H (KeepR.refl _ _) I
theorem fo_some {e : Expr} {fa : Mx Vl} (h : FE X P e fa) : PO X (some e) (tO P (mSome fa)) := by
  refine PO.imp (po_some h) ?_
  rintro σ H Q ⟨M, r0, ss, rw, z, rw', I, e, q⟩
  obtain ⟨x, rw1, e1, e⟩ := bnd_some e
  obtain ⟨e2, rfl⟩ := opt_some e
  refine ⟨M, r0, ss, rw, x, _, I, e1, fun v H1 k1 I1 hv => ?_⟩
  split at e2
  next i =>
    cases e2
    rw [vr_int hv]
    exact ⟨i, rfl, q H1 k1 I1⟩
  next => cases e2
def rSlD (K : PySem.W.Frag) : V → Option Int → Option Int → Hp → VK → Prop := fun x lo hi H Q => rSlL K x lo hi H Q ∨ rSlA K x lo hi H Q ∨ rSlS x lo hi H Q
theorem sl_D : SlR X (rSlD X.K) := L2.SlR.or sl_list (L2.SlR.or sl_tupA sl_str)
theorem cutV_cut (vs : List V) (lo hi : Option Int) : cutV vs lo hi = cutD vs lo hi := rfl
theorem cut_all {K : PySem.W.Frag} {H : Hp} {vs : List V} {ds : List PyData} (h : DRAll K H vs ds) (lo hi : Option Int) : DRAll K H (cutV vs lo hi) (cutD ds lo hi) := by
  rw [cutV_cut]
  unfold cutD
  rw [DRAll.length h]
  exact DRAll.take _ (DRAll.drop _ h)
theorem cut_whole {ds : List PyData} {lo hi : Option Int} (h : HT.sIx ds.length 0 lo = 0 ∧ HT.sIx ds.length ds.length hi = ds.length) : cutD ds lo hi = ds := by
  unfold cutD
  rw [h.1, h.2]
  simp
theorem fe_sl {e : Expr} {lo hi : Option Expr} {fa : Mx Vl} {fl fh : Mx (Option Int)} {p2 pos : Pos} (he : FE X P e fa) (hl : PO X lo (tO P fl)) (hh : PO X hi (tO P fh)) (hK : X.K = P.K := by rfl) : FE X P (.Subscript e (.Slice lo hi none p2) pos) (mSl fa fl fh) := by
  refine PE.imp (pe_slice sl_D he hl hh) ?_
  rw [hK]
  rintro σ H Q ⟨M, r0, ss, rw, z, rw', I, e, q⟩
  obtain ⟨x, rw1, e1, e⟩ := bnd_some e
  obtain ⟨l, rw2, e2, e⟩ := bnd_some e
  obtain ⟨h, rw3, e3, e⟩ := bnd_some e
  obtain ⟨e4, rfl⟩ := opt_some e
  refine ⟨M, r0, ss, rw, x, rw1, I, e1, fun v H1 k1 I1 hv => ⟨M, r0, ss, rw1, l, rw2, I1, e2, fun H2 k2 I2 => ⟨M, r0, ss, rw2, h, _, I2, e3, fun H3 k3 I3 => ?_⟩⟩⟩
  have hv3 := VR.mono k3.msk (VR.mono k2.msk hv)
  have k := (k1.trans k2).trans k3
  unfold slD at e4
  split at e4
  next ds =>
    cases e4
    obtain ⟨a, vs, rfl, h1, h2⟩ := vr_lst hv3
    refine .inl ⟨a, vs, rfl, SqL.of (mk_le _ H3 _ _ h1), fun p hp => ?_⟩
    obtain ⟨s3, n⟩ := new_lst (P := P) I3.alloc (cut_all h2 l h) hp
    exact q _ _ (k.trans (KeepR.of s3)) (I3.grow s3) n
  next ds =>
    cases e4
    obtain ⟨a, vs, rfl, h1, h2⟩ := vr_tup hv3
    refine .inr (.inl ⟨a, vs, rfl, sqT_mono (mk_le _ H3) h1, fun hw => ?_, fun hw p hp => ?_⟩)
    · rw [DRAll.length h2] at hw
      rw [cut_whole hw] at q
      exact q _ _ k I3 hv3
    · obtain ⟨s3, n⟩ := new_tup (P := P) I3.alloc (cut_all h2 l h) hp
      exact q _ _ (k.trans (KeepR.of s3)) (I3.grow s3) n
  next z =>
    split at e4
    next hl =>
      cases e4
      rw [vr_str hv3]
      exact .inr (.inr ⟨_, rfl, sz_of hl, q _ H3 k I3 (DR.str _)⟩)
    next => cases e4
  next => cases e4

/-! ### built-ins, by values -/
/-- one argument -/
def COk (P : Pm) (r : List V → Hp → VK → Prop) (g : Vl → Option Vl) : Prop := ∀ (S : Addr → Prop) (H : Hp) (x : V) (dx dz : Vl) (Q : VK), (∀ a, S a → H a ≠ none) → VR P (hdn S H) x dx → g dx = some dz →
  (∀ v H', Same H H' → VR P (hdn S H') v dz → Q v H') → r [x] H Q
def COk2 (P : Pm) (r : List V → Hp → VK → Prop) (g : Vl → Vl → Option Vl) : Prop := ∀ (S : Addr → Prop) (H : Hp) (x y : V) (dx dy dz : Vl) (Q : VK), (∀ a, S a → H a ≠ none) → VR P (hdn S H) x dx → VR P (hdn S H) y dy → g dx dy = some dz →
  (∀ v H', Same H H' → VR P (hdn S H') v dz → Q v H') → r [x, y] H Q
section
variable {x : Str} {p pos : Pos} {a b : Expr} {fa fb : Mx Vl} {id T : String} {r : List V → Hp → VK → Prop} {g : Vl → Option Vl} {g2 : Vl → Vl → Option Vl}
theorem tE_c1 (hr : COk P r g) : ∀ σ H Q, tE P (m1 g fa) σ H Q → tCB r (tCons (tE P fa) tNil) σ H Q := by
  rintro σ H Q ⟨M, r0, ss, rw, z, rw', I, e, q⟩
  obtain ⟨y, rw1, e1, e⟩ := bnd_some e
  obtain ⟨e3, rfl⟩ := opt_some e
  exact ⟨M, r0, ss, rw, y, _, I, e1, fun v H1 k1 I1 hv => hr (Msk M r0 σ ss) H1 v y z Q I1.alloc hv e3 fun w H3 s3 hw => q w H3 (k1.trans (KeepR.of s3)) (I1.grow s3) hw⟩
theorem tE_c2 (hr : COk2 P r g2) : ∀ σ H Q, tE P (m2 g2 fa fb) σ H Q → tCB r (tCons (tE P fa) (tCons (tE P fb) tNil)) σ H Q := by
  rintro σ H Q ⟨M, r0, ss, rw, z, rw', I, e, q⟩
  obtain ⟨y, rw1, e1, e⟩ := bnd_some e
  obtain ⟨w, rw2, e2, e⟩ := bnd_some e
  obtain ⟨e3, rfl⟩ := opt_some e
  exact ⟨M, r0, ss, rw, y, _, I, e1, fun v H1 k1 I1 hv => ⟨M, r0, ss, rw1, w, _, I1, e2, fun u H2 k2 I2 hu =>
    hr (Msk M r0 σ ss) H2 v u y w z Q I2.alloc (VR.mono k2.msk hv) hu e3 fun w H3 s3 hw => q w H3 ((k1.trans k2).trans (KeepR.of s3)) (I2.grow s3) hw⟩⟩
theorem fe_b1 (hc : CallR X (.builtin id) r) (hr : COk P r g) (hm : X.mg x = none) (hv : bootBuiltins x = some (.builtin id)) (ha : FE X P a fa) (hg : Gl X x := by rfl) (hn : x ≠ "__name__" := by decide) (hdb : (x == ("__debug__" : Str)) = false := by decide)
    (he0 : starEach [a] X.env = (false, eval a X.env) :: starEach [] X.env := by rfl) (hpl : (backTo pos (starEach [] X.env)).any (·.1) = false := by rfl) : FE X P (.Call (.Name x p) [a] [] pos) (m1 g fa) :=
  PE.imp (pe_callB hc hg hm hv (pa_cons ha pa_nil he0) hn hdb he0 hpl) (tE_c1 hr)
theorem fe_t1 (hc : CallR X (.type T) r) (hr : COk P r g) (hm : X.mg x = none) (hv : bootBuiltins x = some (.type T)) (ha : FE X P a fa) (hg : Gl X x := by rfl) (hn : x ≠ "__name__" := by decide) (hdb : (x == ("__debug__" : Str)) = false := by decide)
    (he0 : starEach [a] X.env = (false, eval a X.env) :: starEach [] X.env := by rfl) (hpl : (backTo pos (starEach [] X.env)).any (·.1) = false := by rfl) : FE X P (.Call (.Name x p) [a] [] pos) (m1 g fa) :=
  PE.imp (pe_callTy hc hg hm hv (pa_cons ha pa_nil he0) hn hdb he0 hpl) (tE_c1 hr)
theorem fe_b2 (hc : CallR X (.builtin id) r) (hr : COk2 P r g2) (hm : X.mg x = none) (hv : bootBuiltins x = some (.builtin id)) (ha : FE X P a fa) (hb : FE X P b fb) (hg : Gl X x := by rfl) (hn : x ≠ "__name__" := by decide) (hdb : (x == ("__debug__" : Str)) = false := by decide)
    (hb0 : starEach [b] X.env = (false, eval b X.env) :: starEach [] X.env := by rfl) (he0 : starEach [a, b] X.env = (false, eval a X.env) :: starEach [b] X.env := by rfl) (hpl : (backTo pos (starEach [b] X.env)).any (·.1) = false := by rfl) : FE X P (.Call (.Name x p) [a, b] [] pos) (m2 g2 fa fb) :=
  PE.imp (pe_callB hc hg hm hv (pa_cons ha (pa_cons hb pa_nil hb0) he0) hn hdb he0 hpl) (tE_c2 hr)
end
def lenD : Vl → Option Vl
  | .dat (.list ds) => some (.dat (.int ds.length))
  | .dat (.tuple ds) => some (.dat (.int ds.length))
  | .dat (.str z) => if z.length ≤ 100000 then some (.dat (.int z.length)) else none
  | _ => none
def rLen (K : PySem.W.Frag) : List V → Hp → VK → Prop := fun xs H Q => ∃ x n, xs = [x] ∧ LenV K x H n ∧ Q (.int n) H
theorem ok_len : COk P (rLen P.K) lenD := by
  intro S H x dx dz Q hS hx e q
  unfold lenD at e
  split at e
  next ds =>
    cases e
    obtain ⟨a, vs, rfl, h1, h2⟩ := vr_lst hx
    exact ⟨_, _, rfl, .inl ⟨vs, SqL.of (mk_le S H _ _ h1), rfl⟩, by rw [DRAll.length h2]; exact q _ H (Same.refl _) (DR.int _)⟩
  next ds =>
    cases e
    obtain ⟨a, vs, rfl, h1, h2⟩ := vr_tup hx
    exact ⟨_, _, rfl, .inr ⟨vs, sqT_mono (mk_le S H) h1, rfl⟩, by rw [DRAll.length h2]; exact q _ H (Same.refl _) (DR.int _)⟩
  next z =>
    split at e
    next hl =>
      cases e
      rw [vr_str hx]
      exact ⟨_, _, rfl, ⟨sz_of hl, rfl⟩, q _ H (Same.refl _) (DR.int _)⟩
    next => cases e
  next => cases e
theorem call_lenD : CallR X (.builtin "len") (rLen X.K) := call_len
def tupleD : Vl → Option Vl
  | .dat (.list ds) => some (.dat (.tuple ds))
  | .dat (.tuple ds) => some (.dat (.tuple ds))
  | _ => none
def rTupOf (K : PySem.W.Frag) : List V → Hp → VK → Prop := fun xs H Q => ∃ p ys, xs = [.ref p] ∧ ((SqL K H p ys ∧ ∀ l, H l = none → Q (.ref l) (upd H l (.tup ys))) ∨ (SqT K H p ys ∧ Q (.ref p) H))
theorem call_tupD : CallR X (.type "tuple") (rTupOf X.K) := call_tuple_of
theorem ok_tuple : COk P (rTupOf P.K) tupleD := by
  intro S H x dx dz Q hS hx e q
  unfold tupleD at e
  split at e
  next ds =>
    cases e
    obtain ⟨a, vs, rfl, h1, h2⟩ := vr_lst hx
    refine ⟨a, vs, rfl, .inl ⟨SqL.of (mk_le S H _ _ h1), fun p hp => ?_⟩⟩
    obtain ⟨s3, n⟩ := new_tup (P := P) hS h2 hp
    exact q _ _ s3 n
  next ds =>
    cases e
    obtain ⟨a, vs, rfl, h1, h2⟩ := vr_tup hx
    exact ⟨a, vs, rfl, .inr ⟨sqT_mono (mk_le S H) h1, q _ H (Same.refl _) hx⟩⟩
  next => cases e
def listD : Vl → Option Vl
  | .dat (.list ds) => some (.dat (.list ds))
  | .dat (.tuple ds) => some (.dat (.list ds))
  | _ => none
def rLstOf (K : PySem.W.Frag) : List V → Hp → VK → Prop := fun xs H Q => ∃ p ys, xs = [.ref p] ∧ (SqL K H p ys ∨ SqT K H p ys) ∧ ∀ l, H l = none → Q (.ref l) (upd H l (.lst ys))
theorem call_lstD : CallR X (.type "list") (rLstOf X.K) := call_list_of
theorem ok_list : COk P (rLstOf P.K) listD := by
  intro S H x dx dz Q hS hx e q
  unfold listD at e
  split at e
  next ds =>
    cases e
    obtain ⟨a, vs, rfl, h1, h2⟩ := vr_lst hx
    refine ⟨a, vs, rfl, .inl (SqL.of (mk_le S H _ _ h1)), fun p hp => ?_⟩
    obtain ⟨s3, n⟩ := new_lst (P := P) hS h2 hp
    exact q _ _ s3 n
  next ds =>
    cases e
    obtain ⟨a, vs, rfl, h1, h2⟩ := vr_tup hx
    refine ⟨a, vs, rfl, .inr (sqT_mono (mk_le S H) h1), fun p hp => ?_⟩
    obtain ⟨s3, n⟩ := new_lst (P := P) hS h2 hp
    exact q _ _ s3 n
  next => cases e
def intD : Vl → Option Vl
  | .dat (.int i) => some (.dat (.int i))
  | .dat (.bool b) => some (.dat (.int (if b then 1 else 0)))
  | _ => none
def rInt : List V → Hp → VK → Prop := fun xs H Q => (∃ i, xs = [.int i] ∧ Q (.int i) H) ∨ ∃ k, xs = [.bl k] ∧ Q (.int (if k then 1 else 0)) H
theorem call_intD : CallR X (.type "int") rInt := call_int1
theorem ok_int : COk P rInt intD := by
  intro S H x dx dz Q hS hx e q
  unfold intD at e
  split at e
  next i =>
    cases e
    rw [vr_int hx]
    exact .inl ⟨i, rfl, q _ H (Same.refl _) (DR.int _)⟩
  next b =>
    cases e
    rw [vr_bool hx]
    exact .inr ⟨b, rfl, q _ H (Same.refl _) (DR.int _)⟩
  next => cases e
def absD : Vl → Option Vl
  | .dat (.int i) => some (.dat (.int (if i < 0 then -i else i)))
  | _ => none
theorem ok_abs : COk P (fun xs H Q => ∃ i, xs = [.int i] ∧ Q (.int (if i < 0 then -i else i)) H) absD := by
  intro S H x dx dz Q hS hx e q
  unfold absD at e
  split at e
  next i =>
    cases e
    rw [vr_int hx]
    exact ⟨i, rfl, q _ H (Same.refl _) (DR.int _)⟩
  next => cases e
def max2I (i j : Int) : Option PyData := some (.int (if j > i then j else i))
def min2I (i j : Int) : Option PyData := some (.int (if j < i then j else i))
def max2D := i2 max2I
def min2D := i2 min2I
theorem ok_c2 {f : Int → Int → V} {g : Int → Int → Option PyData} (h : ∀ i j d, g i j = some d → ∀ H, DR P.K H (f i j) d) : COk2 P (fun xs H Q => ∃ i j, xs = [.int i, .int j] ∧ Q (f i j) H) (i2 g) := by
  intro S H x y dx dy dz Q hS hx hy e q
  unfold i2 at e
  split at e
  next i j =>
    split at e
    next d ed =>
      cases e
      rw [vr_int hx, vr_int hy]
      exact ⟨i, j, rfl, q _ H (Same.refl _) (h i j d ed _)⟩
    next => cases e
  next => cases e
theorem ok_max2 : COk2 P (fun xs H Q => ∃ i j, xs = [.int i, .int j] ∧ Q (.int (if j > i then j else i)) H) max2D := ok_c2 fun i j d e H => by cases e; exact .int _
theorem ok_min2 : COk2 P (fun xs H Q => ∃ i j, xs = [.int i, .int j] ∧ Q (.int (if j < i then j else i)) H) min2D := ok_c2 fun i j d e H => by cases e; exact .int _
/-- a list's ints, bools, texts -/
def ints? : List PyData → Option (List Int)
  | [] => some []
  | .int i :: ds => match ints? ds with
    | some is => some (i :: is)
    | none => none
  | _ => none
theorem ints?_map : ∀ {ds : List PyData} {ns : List Int}, ints? ds = some ns → ds = ns.map PyData.int
  | [], ns, h => by cases h; rfl
  | .int i :: ds, ns, h => by
    unfold ints? at h
    split at h
    next is e => cases h; rw [ints?_map e]; rfl
    next => cases h
  | .none :: _, _, h => by cases h
  | .bool _ :: _, _, h => by cases h
  | .str _ :: _, _, h => by cases h
  | .list _ :: _, _, h => by cases h
  | .tuple _ :: _, _, h => by cases h
  | .dict _ :: _, _, h => by cases h
def bls? : List PyData → Option (List Bool)
  | [] => some []
  | .bool i :: ds => match bls? ds with
    | some is => some (i :: is)
    | none => none
  | _ => none
theorem bls?_map : ∀ {ds : List PyData} {ns : List Bool}, bls? ds = some ns → ds = ns.map PyData.bool
  | [], ns, h => by cases h; rfl
  | .bool i :: ds, ns, h => by
    unfold bls? at h
    split at h
    next is e => cases h; rw [bls?_map e]; rfl
    next => cases h
  | .none :: _, _, h => by cases h
  | .int _ :: _, _, h => by cases h
  | .str _ :: _, _, h => by cases h
  | .list _ :: _, _, h => by cases h
  | .tuple _ :: _, _, h => by cases h
  | .dict _ :: _, _, h => by cases h
def strs? : List PyData → Option (List Str)
  | [] => some []
  | .str i :: ds => match strs? ds with
    | some is => some (i :: is)
    | none => none
  | _ => none
theorem strs?_map : ∀ {ds : List PyData} {ns : List Str}, strs? ds = some ns → ds = ns.map PyData.str
  | [], ns, h => by cases h; rfl
  | .str i :: ds, ns, h => by
    unfold strs? at h
    split at h
    next is e => cases h; rw [strs?_map e]; rfl
    next => cases h
  | .none :: _, _, h => by cases h
  | .int _ :: _, _, h => by cases h
  | .bool _ :: _, _, h => by cases h
  | .list _ :: _, _, h => by cases h
  | .tuple _ :: _, _, h => by cases h
  | .dict _ :: _, _, h => by cases h
def allD : Vl → Option Vl
  | .dat (.list ds) => match bls? ds with
    | some bs => some (.dat (.bool (bs.all id)))
    | none => none
  | _ => none
theorem ok_all : COk P (rAll P.K) allD := by
  intro S H x dx dz Q hS hx e q
  unfold allD at e
  split at e
  next ds =>
    split at e
    next bs eb =>
      cases e
      obtain ⟨a, vs, rfl, h1, h2⟩ := vr_lst hx
      rw [bls?_map eb] at h2
      rw [DRAll.bls_inv h2] at h1
      exact ⟨a, bs, rfl, SqL.of (mk_le S H _ _ h1), q _ H (Same.refl _) (DR.bl _)⟩
    next => cases e
  next => cases e
def anyD : Vl → Option Vl
  | .dat (.list ds) => match bls? ds with
    | some bs => some (.dat (.bool (bs.any id)))
    | none => none
  | _ => none
theorem ok_any : COk P (rAny P.K) anyD := by
  intro S H x dx dz Q hS hx e q
  unfold anyD at e
  split at e
  next ds =>
    split at e
    next bs eb =>
      cases e
      obtain ⟨a, vs, rfl, h1, h2⟩ := vr_lst hx
      rw [bls?_map eb] at h2
      rw [DRAll.bls_inv h2] at h1
      exact ⟨a, bs, rfl, SqL.of (mk_le S H _ _ h1), q _ H (Same.refl _) (DR.bl _)⟩
    next => cases e
  next => cases e
/-- the greatest, the least of a list of ints -/
def maxL : List Int → Int
  | [] => 0
  | n :: ns => ns.foldl (fun a b => if b > a then b else a) n
def minL : List Int → Int
  | [] => 0
  | n :: ns => ns.foldl (fun a b => if b < a then b else a) n
theorem fold_max : ∀ (ns : List Int) (a m : Int), (m = a ∨ m ∈ ns) → a ≤ m → (∀ y ∈ ns, y ≤ m) → ns.foldl (fun a b => if b > a then b else a) a = m
  | [], a, m, h, _, _ => by
    rcases h with h | h
    · exact h.symm
    · cases h
  | n :: ns, a, m, h, h1, h2 => by
    rw [List.foldl_cons]
    have hn := h2 n (List.mem_cons_self ..)
    refine fold_max ns _ m ?_ ?_ fun y hy => h2 y (List.mem_cons_of_mem _ hy)
    · rcases h with h | h
      · left; split <;> omega
      · rcases List.mem_cons.mp h with h | h
        · left; split <;> omega
        · exact .inr h
    · split <;> omega
theorem fold_min : ∀ (ns : List Int) (a m : Int), (m = a ∨ m ∈ ns) → m ≤ a → (∀ y ∈ ns, m ≤ y) → ns.foldl (fun a b => if b < a then b else a) a = m
  | [], a, m, h, _, _ => by
    rcases h with h | h
    · exact h.symm
    · cases h
  | n :: ns, a, m, h, h1, h2 => by
    rw [List.foldl_cons]
    have hn := h2 n (List.mem_cons_self ..)
    refine fold_min ns _ m ?_ ?_ fun y hy => h2 y (List.mem_cons_of_mem _ hy)
    · rcases h with h | h
      · left; split <;> omega
      · rcases List.mem_cons.mp h with h | h
        · left; split <;> omega
        · exact .inr h
    · split <;> omega
def maxD : Vl → Option Vl
  | .dat (.list ds) => match ints? ds with
    | some (n :: ns) => some (.dat (.int (maxL (n :: ns))))
    | _ => none
  | _ => none
def minD : Vl → Option Vl
  | .dat (.list ds) => match ints? ds with
    | some (n :: ns) => some (.dat (.int (minL (n :: ns))))
    | _ => none
  | _ => none
theorem ok_max : COk P (rMax P.K) maxD := by
  intro S H x dx dz Q hS hx e q
  unfold maxD at e
  split at e
  next ds =>
    split at e
    next n ns eb =>
      cases e
      obtain ⟨a, vs, rfl, h1, h2⟩ := vr_lst hx
      rw [ints?_map eb] at h2
      rw [DRAll.ints_inv h2] at h1
      refine ⟨a, n :: ns, rfl, SqL.of (mk_le S H _ _ h1), Nat.succ_pos _, fun m hm hy => ?_⟩
      have : maxL (n :: ns) = m := fold_max ns n m (List.mem_cons.mp hm) (hy n (List.mem_cons_self ..)) fun y h => hy y (List.mem_cons_of_mem _ h)
      rw [this] at q
      exact q _ H (Same.refl _) (DR.int _)
    next => cases e
  next => cases e
theorem ok_min : COk P (rMin P.K) minD := by
  intro S H x dx dz Q hS hx e q
  unfold minD at e
  split at e
  next ds =>
    split at e
    next n ns eb =>
      cases e
      obtain ⟨a, vs, rfl, h1, h2⟩ := vr_lst hx
      rw [ints?_map eb] at h2
      rw [DRAll.ints_inv h2] at h1
      refine ⟨a, n :: ns, rfl, SqL.of (mk_le S H _ _ h1), Nat.succ_pos _, fun m hm hy => ?_⟩
      have : minL (n :: ns) = m := fold_min ns n m (List.mem_cons.mp hm) (hy n (List.mem_cons_self ..)) fun y h => hy y (List.mem_cons_of_mem _ h)
      rw [this] at q
      exact q _ H (Same.refl _) (DR.int _)
    next => cases e
  next => cases e
/-- sep.join(texts) -/
def joinD : Vl → Vl → Option Vl
  | .dat (.str a), .dat (.list ds) => match strs? ds with
    | some ys => if (ys.map (·.length)).sum + ys.length * a.length ≤ 100000 then some (.dat (.str (Txt.join a ys))) else none
    | none => none
  | _, _ => none
theorem fe_join {o e : Expr} {fo fe : Mx Vl} {apos pos : Pos} (ho : FE X P o fo) (he : FE X P e fe) (hK : X.K = P.K := by rfl) (hs : starEach [e] X.env = [(false, eval e X.env)] := by rfl) (hbase : attributeBase o "join" X.env (eval o X.env) = eval o X.env := by rfl) (hline : (apos.endLine == pos.line) = true := by rfl) :
    FE X P (.Call (.Attribute o "join" apos) [e] [] pos) (m2 joinD fo fe) := by
  refine PE.imp (pe_join ho he hs hbase hline) ?_
  rw [hK]
  rintro σ H Q ⟨M, r0, ss, rw, z, rw', I, e, q⟩
  obtain ⟨y, rw1, e1, e⟩ := bnd_some e
  obtain ⟨w, rw2, e2, e⟩ := bnd_some e
  obtain ⟨e3, rfl⟩ := opt_some e
  refine ⟨M, r0, ss, rw, y, _, I, e1, fun v H1 k1 I1 hv => ?_⟩
  unfold joinD at e3
  split at e3
  next a ds =>
    split at e3
    next ys ey =>
      split at e3
      next hl =>
        cases e3
        rw [vr_str hv]
        refine ⟨⟨_, rfl⟩, M, r0, ss, rw1, _, _, I1, e2, fun u H2 k2 I2 hu => ?_⟩
        obtain ⟨l, vs, rfl, h1, h2⟩ := vr_lst hu
        rw [strs?_map ey] at h2
        rw [DRAll.strs_inv h2] at h1
        exact ⟨_, l, ys, rfl, rfl, .inl (SqL.of (mk_le _ H2 _ _ h1)), Nat.le_trans hl (by decide), q _ H2 (k1.trans k2) I2 (DR.str _)⟩
      next => cases e3
    next => cases e3
  next => cases e3
end
end FL
/-! What is walked, targets, comprehensions. -/
namespace FL
open PySem L2

/-! ### what is walked -/
/-- J gives the items xs, one after another, wherever what was seen in the heap H0 (without S0) is seen still -/
def Wlk (P : Pm) (S0 : Addr → Prop) (H0 : Hp) (J : It) (xs : List PyData) : Prop := ∀ (S1 : Addr → Prop) (H : Hp), Same (hdn S0 H0) (hdn S1 H) → (∀ a, S1 a → H a ≠ none) →
  (∀ i, i < xs.length → J.go i H ∧ ∀ x H', J.yld i H x H' → Same H H' ∧ ∃ d, xs[i]? = some d ∧ DR P.K (hdn S1 H') x d) ∧ J.stop xs.length H
def tI (P : Pm) (m : Mx (List PyData)) : TI := fun σ H R => ∃ M r ss rw xs rw', ER P M r σ H ss rw ∧ m ss rw = some (xs, rw') ∧
  ∀ J H', KeepR r H H' → ER P M r σ H' ss rw' → Wlk P (Msk M r σ ss) H' J xs → R J H'
abbrev FI (X : Cx) (P : Pm) (tg iter : Expr) (m : Mx (List PyData)) : Prop := PI X tg iter (tI P m)
theorem PI.imp {X : Cx} {tg iter : Expr} {w w' : TI} (h : PI X tg iter w) (i : ∀ σ H R, w' σ H R → w σ H R) : PI X tg iter w' := ⟨fun pins s σ H R I q => h.run pins s σ H R I (i σ H R q)⟩
theorem PI.or {X : Cx} {tg iter : Expr} {w w' : TI} (h : PI X tg iter w) (h' : PI X tg iter w') : PI X tg iter (fun σ H R => w σ H R ∨ w' σ H R) := ⟨fun pins s σ H R I q => by
  rcases q with q | q
  · exact h.run pins s σ H R I q
  · exact h'.run pins s σ H R I q⟩
section
variable {P : Pm} {X : Cx} {tg a b : Expr} {fa fb : Mx Vl}
theorem wlk_list {S : Addr → Prop} {H : Hp} {p : Addr} {vs : List V} {ds : List PyData} (h1 : SqL P.K (hdn S H) p vs) (h2 : DRAll P.K (hdn S H) vs ds) : Wlk P S H (Itl P.K p) ds := fun S1 H1 s al => by
  have hl := DRAll.length h2
  have q : SqL P.K H1 p vs := (mk_le S1 H1).seq (s.seq h1)
  refine ⟨fun i hi => ⟨walk_list.goes i H1 (by rw [hl]; exact hi) q, fun x H' y => ?_⟩, by rw [← hl]; exact walk_list.stops H1 q⟩
  obtain ⟨e1, e2⟩ := walk_list.yields i H1 x H' (by rw [hl]; exact hi) q y
  subst e1
  obtain ⟨d, hd⟩ : ∃ d, ds[i]? = some d := ⟨ds[i], List.getElem?_eq_getElem hi⟩
  obtain ⟨v, g1, g2⟩ := DRAll.get h2 hd
  rw [e2] at g1
  cases g1
  exact ⟨Same.refl _, d, hd, dr_mono s _ _ g2⟩
theorem wlk_tup {S : Addr → Prop} {H : Hp} {p : Addr} {vs : List V} {ds : List PyData} (h1 : SqT P.K (hdn S H) p vs) (h2 : DRAll P.K (hdn S H) vs ds) : Wlk P S H (Itt P.K p) ds := fun S1 H1 s al => by
  have hl := DRAll.length h2
  have q : SqT P.K H1 p vs := sqT_mono (mk_le S1 H1) (sqT_mono s h1)
  refine ⟨fun i hi => ⟨walk_tup.goes i H1 (by rw [hl]; exact hi) q, fun x H' y => ?_⟩, by rw [← hl]; exact walk_tup.stops H1 q⟩
  obtain ⟨e1, e2⟩ := walk_tup.yields i H1 x H' (by rw [hl]; exact hi) q y
  subst e1
  obtain ⟨d, hd⟩ : ∃ d, ds[i]? = some d := ⟨ds[i], List.getElem?_eq_getElem hi⟩
  obtain ⟨v, g1, g2⟩ := DRAll.get h2 hd
  rw [e2] at g1
  cases g1
  exact ⟨Same.refl _, d, hd, dr_mono s _ _ g2⟩
/-- the signs of a text -/
def signs (z : Str) : List PyData := z.cps.toList.map fun c => .str ⟨#[c]⟩
theorem wlk_str {S : Addr → Prop} {H : Hp} {z : Str} : Wlk P S H (Its z) (signs z) := fun S1 H1 s al => by
  have hl : (signs z).length = z.cps.size := by unfold signs; simp
  refine ⟨fun i hi => ⟨walk_str.goes i H1 (by rw [← hl]; exact hi) trivial, fun x H' y => ?_⟩, by rw [hl]; exact walk_str.stops H1 trivial⟩
  obtain ⟨e1, c, e2, e3⟩ := walk_str.yields i H1 x H' (by rw [← hl]; exact hi) trivial y
  subst e1
  subst e3
  refine ⟨Same.refl _, .str ⟨#[c]⟩, ?_, DR.str _⟩
  unfold signs
  rw [List.getElem?_map, Array.getElem?_toList, e2]
  rfl
/-- lo, lo + 1, .. -/
def rgD (lo : Int) (n : Nat) : List PyData := (List.range n).map fun i => .int (lo + (i : Nat))
theorem wlk_range {S : Addr → Prop} {H : Hp} {lo : Int} {n : Nat} : Wlk P S H (Itr lo n) (rgD lo n) := fun S1 H1 s al => by
  have hl : (rgD lo n).length = n := by unfold rgD; simp
  refine ⟨fun i hi => ⟨walk_range.goes i H1 (by rw [← hl]; exact hi) trivial, fun x H' y => ?_⟩, by rw [hl]; exact walk_range.stops H1 trivial⟩
  obtain ⟨e1, e2⟩ := walk_range.yields i H1 x H' (by rw [← hl]; exact hi) trivial y
  subst e1
  subst e2
  refine ⟨Same.refl _, .int (lo + (i : Nat)), ?_, DR.int _⟩
  unfold rgD
  rw [List.getElem?_map, List.getElem?_range (by rw [← hl]; exact hi)]
  rfl
/-- 0, 1, .. with the items -/
def enD (ds : List PyData) : List PyData := (ds.zipIdx 0).map fun p => .tuple [.int (p.2 : Nat), p.1]
theorem enD_len (ds : List PyData) : (enD ds).length = ds.length := by unfold enD; simp
theorem enD_get {ds : List PyData} {i : Nat} {d : PyData} (h : ds[i]? = some d) : (enD ds)[i]? = some (.tuple [.int (i : Nat), d]) := by
  unfold enD
  rw [List.getElem?_map, List.getElem?_zipIdx, h]
  simp
theorem new_pair {S : Addr → Prop} {H : Hp} {T : Addr} {x y : V} {d e : PyData} (al : ∀ a, S a → H a ≠ none) (hT : H T = none) (hx : DR P.K (hdn S H) x d) (hy : DR P.K (hdn S H) y e) :
    Same H (upd H T (.tup [x, y])) ∧ DR P.K (hdn S (upd H T (.tup [x, y]))) (.ref T) (.tuple [d, e]) := new_tup (P := P) al (.cons hx (.cons hy .nil)) hT
theorem wlk_enum {S : Addr → Prop} {H : Hp} {p : Addr} {vs : List V} {ds : List PyData} (h1 : SqL P.K (hdn S H) p vs) (h2 : DRAll P.K (hdn S H) vs ds) : Wlk P S H (Ite P.K p) (enD ds) := fun S1 H1 s al => by
  have hl := DRAll.length h2
  have q : SqL P.K H1 p vs := (mk_le S1 H1).seq (s.seq h1)
  refine ⟨fun i hi => ?_, by rw [enD_len, ← hl]; exact walk_enum.stops H1 q⟩
  rw [enD_len] at hi
  refine ⟨walk_enum.goes i H1 (by rw [hl]; exact hi) q, fun x H' y => ?_⟩
  obtain ⟨T, u, w, e1, e2, e3, e4, e5⟩ := walk_enum.yields i H1 x H' (by rw [hl]; exact hi) q y
  obtain ⟨d, hd⟩ : ∃ d, ds[i]? = some d := ⟨ds[i], List.getElem?_eq_getElem hi⟩
  obtain ⟨v, g1, g2⟩ := DRAll.get h2 hd
  have e5 : vs[i]? = some w := e5
  rw [e5] at g1
  cases g1
  cases e4
  subst e1 e3
  obtain ⟨k1, k2⟩ := new_pair (P := P) al e2 (DR.int (i : Nat)) (dr_mono s _ _ g2)
  exact ⟨k1, _, enD_get hd, k2⟩
def zpD : List PyData → List PyData → List PyData
  | d :: ds, e :: es => .tuple [d, e] :: zpD ds es
  | _, _ => []
theorem zpD_len : ∀ ds es : List PyData, (zpD ds es).length = min ds.length es.length
  | [], es => by simp [zpD]
  | d :: ds, [] => by simp [zpD]
  | d :: ds, e :: es => by
    unfold zpD
    rw [List.length_cons, zpD_len ds es, List.length_cons, List.length_cons]
    omega
theorem zpD_get : ∀ {ds es : List PyData} {i : Nat} {d e : PyData}, ds[i]? = some d → es[i]? = some e → (zpD ds es)[i]? = some (.tuple [d, e])
  | [], es, i, d, e, h, _ => by simp at h
  | d :: ds, [], i, _, e, _, h => by simp at h
  | d :: ds, e :: es, 0, d', e', h, h' => by
    have q1 : d = d' := by simpa using h
    have q2 : e = e' := by simpa using h'
    subst q1 q2
    rfl
  | d :: ds, e :: es, i + 1, d', e', h, h' => by
    unfold zpD
    rw [List.getElem?_cons_succ]
    exact zpD_get (by simpa using h) (by simpa using h')
/-- a list, a tuple, a text -/
def seqD : Vl → Option (List PyData)
  | .dat (.list ds) => some ds
  | .dat (.tuple ds) => some ds
  | .dat (.str z) => some (signs z)
  | _ => none
def mSeq (fa : Mx Vl) : Mx (List PyData) := bnd fa fun x => opt (seqD x)
theorem fi_seq (ha : FE X P a fa) (hK : X.K = P.K := by rfl) : FI X P tg a (mSeq fa) := by
  refine PI.imp (PI.or (pi_list ha) (PI.or (pi_tup ha) (pi_str ha))) ?_
  rw [hK]
  rintro σ H R ⟨M, r0, ss, rw, xs, rw', I, e, q⟩
  obtain ⟨y, rw1, e1, e⟩ := bnd_some e
  obtain ⟨e2, rfl⟩ := opt_some e
  unfold seqD at e2
  split at e2
  next ds =>
    cases e2
    refine .inl ⟨M, r0, ss, rw, _, _, I, e1, fun v H1 k1 I1 hv => ?_⟩
    obtain ⟨p, vs, rfl, h1, h2⟩ := vr_lst hv
    exact ⟨p, rfl, ⟨vs, SqL.of (mk_le _ H1 _ _ h1)⟩, q _ H1 k1 I1 (wlk_list (SqL.of h1) h2)⟩
  next ds =>
    cases e2
    refine .inr (.inl ⟨M, r0, ss, rw, _, _, I, e1, fun v H1 k1 I1 hv => ?_⟩)
    obtain ⟨p, vs, rfl, h1, h2⟩ := vr_tup hv
    exact ⟨p, rfl, ⟨vs, sqT_mono (mk_le _ H1) h1⟩, q _ H1 k1 I1 (wlk_tup h1 h2)⟩
  next z =>
    cases e2
    refine .inr (.inr ⟨M, r0, ss, rw, _, _, I, e1, fun v H1 k1 I1 hv => ?_⟩)
    exact ⟨_, vr_str hv, q _ H1 k1 I1 wlk_str⟩
  next => cases e2
def mRg1 (fa : Mx Vl) : Mx (List PyData) := bnd fa fun x => opt (match x with
  | .dat (.int j) => if -1000000 ≤ j ∧ j ≤ 1000000 then some (rgD 0 j.toNat) else none
  | _ => none)
def mRg2 (fa fb : Mx Vl) : Mx (List PyData) := bnd fa fun x => bnd fb fun y => opt (match x, y with
  | .dat (.int i), .dat (.int j) => if (-1000000 ≤ i ∧ i ≤ 1000000) ∧ -1000000 ≤ j ∧ j ≤ 1000000 then some (rgD i (j - i).toNat) else none
  | _, _ => none)
theorem fi_rg1 {p pos : Pos} (ha : FE X P a fa) (hm : X.mg "range" = none) (hg : Gl X "range" := by rfl) (hs : starEach [a] X.env = [(false, eval a X.env)] := by rfl) : FI X P tg (.Call (.Name "range" p) [a] [] pos) (mRg1 fa) := by
  refine PI.imp (pi_range1 hg hm (pa_cons ha pa_nil hs) hs) ?_
  rintro σ H R ⟨M, r0, ss, rw, xs, rw', I, e, q⟩
  obtain ⟨y, rw1, e1, e⟩ := bnd_some e
  obtain ⟨e2, rfl⟩ := opt_some e
  refine ⟨M, r0, ss, rw, _, _, I, e1, fun v H1 k1 I1 hv => ?_⟩
  split at e2
  next j =>
    split at e2
    next hj =>
      cases e2
      rw [vr_int hv]
      exact ⟨j, rfl, by omega, by omega, q _ H1 k1 I1 wlk_range⟩
    next => cases e2
  next => cases e2
theorem fi_rg2 {p pos : Pos} (ha : FE X P a fa) (hb : FE X P b fb) (hm : X.mg "range" = none) (hg : Gl X "range" := by rfl) (hs : starEach [a, b] X.env = [(false, eval a X.env), (false, eval b X.env)] := by rfl) (hs2 : starEach [b] X.env = [(false, eval b X.env)] := by rfl) :
    FI X P tg (.Call (.Name "range" p) [a, b] [] pos) (mRg2 fa fb) := by
  refine PI.imp (pi_range2 hg hm (pa_cons ha (pa_cons hb pa_nil hs2) (hs.trans (by rw [hs2]))) hs hs2) ?_
  rintro σ H R ⟨M, r0, ss, rw, xs, rw', I, e, q⟩
  obtain ⟨y, rw1, e1, e⟩ := bnd_some e
  obtain ⟨z, rw2, e3, e⟩ := bnd_some e
  obtain ⟨e2, rfl⟩ := opt_some e
  refine ⟨M, r0, ss, rw, _, _, I, e1, fun v H1 k1 I1 hv => ⟨M, r0, ss, _, _, _, I1, e3, fun u H2 k2 I2 hu => ?_⟩⟩
  split at e2
  next i j =>
    split at e2
    next hj =>
      cases e2
      rw [vr_int hv, vr_int hu]
      exact ⟨_, _, rfl, by omega, q _ H2 (k1.trans k2) I2 wlk_range⟩
    next => cases e2
  next => cases e2
def mEn (fa : Mx Vl) : Mx (List PyData) := bnd fa fun x => opt (match x with
  | .dat (.list ds) => some (enD ds)
  | _ => none)
theorem fi_enum {p pos tpos : Pos} {elts : List Expr} {kk : Nat} (ha : FE X P a fa) (hm : X.mg "enumerate" = none) (hK : X.K = P.K := by rfl) (hg : Gl X "enumerate" := by rfl) (hs : starEach [a] X.env = [(false, eval a X.env)] := by rfl) :
    FI X P (.Tuple elts kk tpos) (.Call (.Name "enumerate" p) [a] [] pos) (mEn fa) := by
  refine PI.imp (pi_enum hg hm (pa_cons ha pa_nil hs) hs) ?_
  rw [hK]
  rintro σ H R ⟨M, r0, ss, rw, xs, rw', I, e, q⟩
  obtain ⟨y, rw1, e1, e⟩ := bnd_some e
  obtain ⟨e2, rfl⟩ := opt_some e
  refine ⟨M, r0, ss, rw, _, _, I, e1, fun v H1 k1 I1 hv => ?_⟩
  split at e2
  next ds =>
    cases e2
    obtain ⟨p, vs, rfl, h1, h2⟩ := vr_lst hv
    exact ⟨p, vs, rfl, SqL.of (mk_le _ H1 _ _ h1), q _ H1 k1 I1 (wlk_enum (SqL.of h1) h2)⟩
  next => cases e2
end

/-! ### targets -/
/-- the slots outside vs are as they were -/
def Out0 (vs : List Nat) (σ σ' : St) (ss ss' : List Sl) : Prop := σ'.length = σ.length ∧ ss'.length = ss.length ∧ ∀ i, i ∉ vs → σ'[i]? = σ[i]? ∧ ss'[i]? = ss[i]?
def GOk (P : Pm) (t : TG) (g : PyData → List Sl → Option (List Sl)) (vs : List Nat) : Prop := ∀ (M : Addr → Prop) (r : Option Addr) (σ : St) (H : Hp) (ss : List Sl) (rw : Ro) (v : V) (d : PyData) (ss' : List Sl) (Q : St → Hp → Prop),
  ER P M r σ H ss rw → DR P.K (hdn (Msk M r σ ss) H) v d → g d ss = some ss' →
  (∀ σ', Out0 vs σ σ' ss ss' → ER P M r σ' H ss' rw → (∀ a, Own σ' ss' a → Own σ ss a) → Q σ' H) → t v σ H Q
def GsOk (P : Pm) (t : TGs) (g : List PyData → List Sl → Option (List Sl)) (vs : List Nat) : Prop := ∀ (M : Addr → Prop) (r : Option Addr) (σ : St) (H : Hp) (ss : List Sl) (rw : Ro) (us : List V) (ds : List PyData) (ss' : List Sl) (Q : St → Hp → Prop),
  ER P M r σ H ss rw → DRAll P.K (hdn (Msk M r σ ss) H) us ds → g ds ss = some ss' →
  (∀ σ', Out0 vs σ σ' ss ss' → ER P M r σ' H ss' rw → (∀ a, Own σ' ss' a → Own σ ss a) → Q σ' H) → t us σ H Q
def putS (i : Nat) (x : Sl) (ss : List Sl) : Option (List Sl) := if i < ss.length then some (ss.set i x) else none
section
variable {P : Pm} {M : Addr → Prop} {r : Option Addr} {σ : St} {H H' : Hp} {ss : List Sl} {rw : Ro}
theorem own_set {i : Nat} {v : V} {x : Vl} {a : Addr} (h : Own (σ.set i (some v)) (ss.set i (.vl x)) a) : Own σ ss a := by
  obtain ⟨j, ds, h1, h2⟩ := h
  by_cases hj : i = j
  · subst hj
    by_cases hl : i < ss.length
    · rw [List.getElem?_set_self hl] at h1
      cases h1
    · rw [List.getElem?_eq_none (by simpa using hl)] at h1
      cases h1
  · rw [List.getElem?_set_ne hj] at h1 h2
    exact ⟨j, ds, h1, h2⟩
theorem msk_sub {σ' : St} {ss' : List Sl} (h : ∀ a, Own σ' ss' a → Own σ ss a) : ∀ a, Msk M r σ' ss' a → Msk M r σ ss a := fun a z => by
  rcases z with z | z | z
  · exact .inl z
  · exact .inr (.inl z)
  · exact .inr (.inr (h a z))
/-- a slot gets a value -/
theorem ER.setv (I : ER P M r σ H ss rw) {i : Nat} {v : V} {x : Vl} (hi : i < ss.length) (hv : VR P (hdn (Msk M r σ ss) H) v x) : ER P M r (σ.set i (some v)) H (ss.set i (.vl x)) rw := by
  have sub : Same (hdn (Msk M r σ ss) H) (hdn (Msk M r (σ.set i (some v)) (ss.set i (.vl x))) H) := mk_sub (msk_sub fun a z => own_set z)
  refine ⟨by rw [List.length_set, List.length_set]; exact I.len, fun j y h => ?_, fun j ds h => ?_, fun j h => ?_, fun a h => ?_, I.m0, fun j k a ds es h1 h2 h3 h4 => ?_⟩
  · by_cases hj : i = j
    · subst hj
      rw [List.getElem?_set_self hi] at h
      cases h
      exact ⟨v, List.getElem?_set_self (by rw [I.len]; exact hi), VR.mono sub hv⟩
    · rw [List.getElem?_set_ne hj] at h ⊢
      obtain ⟨u, h1, h2⟩ := I.sl j y h
      exact ⟨u, h1, VR.mono sub h2⟩
  · by_cases hj : i = j
    · subst hj
      rw [List.getElem?_set_self hi] at h
      cases h
    · rw [List.getElem?_set_ne hj] at h ⊢
      obtain ⟨a, vs, h1, h2, h3, h4⟩ := I.ow j ds h
      exact ⟨a, vs, h1, h2, drAll_mono sub _ _ h3, h4⟩
  · by_cases hj : i = j
    · subst hj
      rw [List.getElem?_set_self hi] at h
      cases h
    · rw [List.getElem?_set_ne hj] at h ⊢
      exact I.rs j h
  · obtain ⟨h1, sa, h2, h3⟩ := I.rk a h
    exact ⟨h1, sa, h2, sub.seq h3⟩
  · have nj : i ≠ j := fun z => by
      subst z
      rw [List.getElem?_set_self hi] at h1
      cases h1
    have nk : i ≠ k := fun z => by
      subst z
      rw [List.getElem?_set_self hi] at h2
      cases h2
    rw [List.getElem?_set_ne nj] at h1 h3
    rw [List.getElem?_set_ne nk] at h2 h4
    exact I.inj j k a ds es h1 h2 h3 h4
def gNm (i : Nat) (d : PyData) (ss : List Sl) : Option (List Sl) := putS i (.vl (.dat d)) ss
theorem gok_name (i : Nat) : GOk P (gName i) (gNm i) [i] := by
  intro M r σ H ss rw v d ss' Q I hv e q
  unfold gNm putS at e
  split at e
  next hi =>
    cases e
    exact q _ ⟨List.length_set, List.length_set, fun j hj => by
      have hj' : i ≠ j := fun z => hj (by simp [z])
      rw [List.getElem?_set_ne hj', List.getElem?_set_ne hj']
      exact ⟨rfl, rfl⟩⟩ (I.setv hi hv) fun a z => own_set z
  next => cases e
def gsNil (ds : List PyData) (ss : List Sl) : Option (List Sl) := match ds with
  | [] => some ss
  | _ => none
def gsCons (g : PyData → List Sl → Option (List Sl)) (gs : List PyData → List Sl → Option (List Sl)) (ds : List PyData) (ss : List Sl) : Option (List Sl) := match ds with
  | d :: ds => match g d ss with
    | some ss1 => gs ds ss1
    | none => none
  | _ => none
theorem gsok_nil : GsOk P gNil gsNil [] := by
  intro M r σ H ss rw us ds ss' Q I hv e q
  unfold gsNil at e
  split at e
  next =>
    cases e
    cases hv
    exact ⟨rfl, q σ ⟨rfl, rfl, fun _ _ => ⟨rfl, rfl⟩⟩ I fun _ z => z⟩
  next => cases e
theorem gsok_cons {t : TG} {ts : TGs} {g : PyData → List Sl → Option (List Sl)} {gs : List PyData → List Sl → Option (List Sl)} {vs ws : List Nat} (h1 : GOk P t g vs) (h2 : GsOk P ts gs ws) : GsOk P (gCons t ts) (gsCons g gs) (vs ++ ws) := by
  intro M r σ H ss rw us ds ss' Q I hv e q
  unfold gsCons at e
  split at e
  next d ds' =>
    split at e
    next ss1 e1 =>
      cases hv with
      | cons q1 q2 =>
        refine ⟨_, _, rfl, h1 M r σ H ss rw _ d ss1 _ I q1 e1 fun σ1 o1 I1 w1 => ?_⟩
        refine h2 M r σ1 H ss1 rw _ ds' ss' Q I1 (drAll_mono (mk_sub (msk_sub w1)) _ _ q2) e fun σ2 o2 I2 w2 => ?_
        refine q σ2 ⟨o2.1.trans o1.1, o2.2.1.trans o1.2.1, fun i hi => ?_⟩ I2 fun a z => w1 a (w2 a z)
        have n1 : i ∉ vs := fun z => hi (List.mem_append_left _ z)
        have n2 : i ∉ ws := fun z => hi (List.mem_append_right _ z)
        exact ⟨(o2.2.2 i n2).1.trans (o1.2.2 i n1).1, (o2.2.2 i n2).2.trans (o1.2.2 i n1).2⟩
    next => cases e
  next => cases e
def gTp (n : Nat) (gs : List PyData → List Sl → Option (List Sl)) (d : PyData) (ss : List Sl) : Option (List Sl) := match d with
  | .tuple ds => if ds.length = n then gs ds ss else none
  | _ => none
theorem gok_tup {ts : TGs} {gs : List PyData → List Sl → Option (List Sl)} {vs : List Nat} (n : Nat) (h : GsOk P ts gs vs) : GOk P (gTup P.K n ts) (gTp n gs) vs := by
  intro M r σ H ss rw v d ss' Q I hv e q
  unfold gTp at e
  split at e
  next ds =>
    split at e
    next hn =>
      obtain ⟨a, us, rfl, g1, g2⟩ := vr_tup (P := P) hv
      exact ⟨a, us, rfl, sqT_mono (mk_le _ H) g1, (DRAll.length g2).trans hn, h M r σ H ss rw us ds ss' Q I g2 e q⟩
    next => cases e
  next => cases e

/-! ### comprehensions -/
def wipeS (ss : List Sl) : List Nat → List Sl
  | [] => ss
  | v :: vs => (wipeS ss vs).set v .no
theorem wipeS_length (ss : List Sl) : ∀ vs : List Nat, (wipeS ss vs).length = ss.length
  | [] => rfl
  | v :: vs => by unfold wipeS; rw [List.length_set, wipeS_length ss vs]
theorem wipe_at (σ : St) : ∀ (vs : List Nat) (i : Nat), (wipe σ vs)[i]? = if i ∈ vs then (σ[i]?).map fun _ => none else σ[i]?
  | [], i => by simp [wipe]
  | v :: vs, i => by
    unfold wipe
    by_cases hv : v = i
    · subst hv
      rw [if_pos List.mem_cons_self]
      by_cases hl : v < (wipe σ vs).length
      · rw [List.getElem?_set_self hl]
        rw [wipe_length] at hl
        rw [List.getElem?_eq_getElem hl]
        rfl
      · rw [List.getElem?_eq_none (by simpa using hl)]
        rw [wipe_length] at hl
        rw [List.getElem?_eq_none (by simpa using hl)]
        rfl
    · rw [List.getElem?_set_ne hv, wipe_at σ vs i]
      have : (i ∈ v :: vs) ↔ i ∈ vs := by simp [Ne.symm hv]
      simp only [this]
theorem wipeS_at (ss : List Sl) : ∀ (vs : List Nat) (i : Nat), (wipeS ss vs)[i]? = if i ∈ vs then (ss[i]?).map fun _ => .no else ss[i]?
  | [], i => by simp [wipeS]
  | v :: vs, i => by
    unfold wipeS
    by_cases hv : v = i
    · subst hv
      rw [if_pos List.mem_cons_self]
      by_cases hl : v < (wipeS ss vs).length
      · rw [List.getElem?_set_self hl]
        rw [wipeS_length] at hl
        rw [List.getElem?_eq_getElem hl]
        rfl
      · rw [List.getElem?_eq_none (by simpa using hl)]
        rw [wipeS_length] at hl
        rw [List.getElem?_eq_none (by simpa using hl)]
        rfl
    · rw [List.getElem?_set_ne hv, wipeS_at ss vs i]
      have : (i ∈ v :: vs) ↔ i ∈ vs := by simp [Ne.symm hv]
      simp only [this]
theorem wipe_same {σ σ' : St} {ss ss' : List Sl} {vs : List Nat} (h : Out0 vs (wipe σ vs) σ' ss ss') : wipe σ' vs = wipe σ vs := by
  refine List.ext_getElem? fun i => ?_
  rw [wipe_at, wipe_at]
  obtain ⟨h1, _, h3⟩ := h
  by_cases hi : i ∈ vs
  · rw [if_pos hi, if_pos hi]
    have hl : σ'.length = σ.length := by rw [h1, wipe_length]
    by_cases hb : i < σ.length
    · rw [List.getElem?_eq_getElem (by rw [hl]; exact hb), List.getElem?_eq_getElem hb]
      all_goals rfl
    · rw [List.getElem?_eq_none (by rw [hl]; omega), List.getElem?_eq_none (by omega)]
      all_goals rfl
  · rw [if_neg hi, if_neg hi, (h3 i hi).1, wipe_at, if_neg hi]
/-- none of these slots is an own list -/
def noOwn (ss : List Sl) : List Nat → Bool
  | [] => true
  | v :: vs => (match ss[v]? with
    | some (.own _) => false
    | _ => true) && noOwn ss vs
theorem noOwn_at {ss : List Sl} {ds : List PyData} : ∀ {vs : List Nat} {i : Nat}, noOwn ss vs = true → i ∈ vs → ss[i]? = some (.own ds) → False
  | v :: vs, i, h, hi, e => by
    unfold noOwn at h
    rw [Bool.and_eq_true] at h
    rcases List.mem_cons.mp hi with z | z
    · subst z
      rw [e] at h
      exact absurd h.1 (by simp)
    · exact noOwn_at h.2 z e
theorem own_wipe {vs : List Nat} {a : Addr} (h : Own (wipe σ vs) (wipeS ss vs) a) : Own σ ss a := by
  obtain ⟨i, ds, h1, h2⟩ := h
  rw [wipeS_at] at h1
  rw [wipe_at] at h2
  by_cases hi : i ∈ vs
  · rw [if_pos hi] at h1
    cases e : ss[i]? with
    | none => rw [e] at h1; cases h1
    | some s => rw [e] at h1; cases h1
  · rw [if_neg hi] at h1 h2
    exact ⟨i, ds, h1, h2⟩
theorem own_unwipe {vs : List Nat} {a : Addr} (hn : noOwn ss vs = true) (h : Own σ ss a) : Own (wipe σ vs) (wipeS ss vs) a := by
  obtain ⟨i, ds, h1, h2⟩ := h
  have hi : i ∉ vs := fun z => noOwn_at hn z h1
  exact ⟨i, ds, by rw [wipeS_at, if_neg hi]; exact h1, by rw [wipe_at, if_neg hi]; exact h2⟩
theorem ER.wipe (I : ER P M r σ H ss rw) (vs : List Nat) : ER P M r (L2.wipe σ vs) H (wipeS ss vs) rw := by
  have sub : Same (hdn (Msk M r σ ss) H) (hdn (Msk M r (L2.wipe σ vs) (wipeS ss vs)) H) := mk_sub (msk_sub fun a z => own_wipe z)
  have back : ∀ {i : Nat} {s : Sl}, (wipeS ss vs)[i]? = some s → s ≠ .no → i ∉ vs ∧ ss[i]? = some s := fun {i s} h hs => by
    rw [wipeS_at] at h
    by_cases hi : i ∈ vs
    · rw [if_pos hi] at h
      cases e : ss[i]? with
      | none => rw [e] at h; cases h
      | some t => rw [e] at h; cases h; exact absurd rfl hs
    · rw [if_neg hi] at h
      exact ⟨hi, h⟩
  refine ⟨by rw [wipe_length, wipeS_length]; exact I.len, fun j y h => ?_, fun j ds h => ?_, fun j h => ?_, fun a h => ?_, I.m0, fun j k a ds es h1 h2 h3 h4 => ?_⟩
  · obtain ⟨n, h⟩ := back h (by simp)
    obtain ⟨u, h1, h2⟩ := I.sl j y h
    exact ⟨u, by rw [wipe_at, if_neg n]; exact h1, VR.mono sub h2⟩
  · obtain ⟨n, h⟩ := back h (by simp)
    obtain ⟨a, us, h1, h2, h3, h4⟩ := I.ow j ds h
    exact ⟨a, us, by rw [wipe_at, if_neg n]; exact h1, h2, drAll_mono sub _ _ h3, h4⟩
  · obtain ⟨n, h⟩ := back h (by simp)
    obtain ⟨a, h1, h2⟩ := I.rs j h
    exact ⟨a, h1, by rw [wipe_at, if_neg n]; exact h2⟩
  · obtain ⟨h1, sa, h2, h3⟩ := I.rk a h
    exact ⟨h1, sa, h2, sub.seq h3⟩
  · obtain ⟨n1, h1⟩ := back h1 (by simp)
    obtain ⟨n2, h2⟩ := back h2 (by simp)
    rw [wipe_at, if_neg n1] at h3
    rw [wipe_at, if_neg n2] at h4
    exact I.inj j k a ds es h1 h2 h3 h4
theorem ER.hide (I : ER P M r σ H ss rw) {D : Addr} {o : HO} (hD : H D = none) : ER P (fun a => M a ∨ a = D) r σ (upd H D o) ss rw := I.hideS (upd_same' hD) hD (by rw [upd_same]; simp)
/-- an object that is hidden changes -/
theorem ER.hid (I : ER P M r σ H ss rw) {D : Addr} {o : HO} (hM : M D) : ER P M r σ (upd H D o) ss rw := by
  have sub : Same (hdn (Msk M r σ ss) H) (hdn (Msk M r σ ss) (upd H D o)) := mk_same fun b u n h => by
    have nb : b ≠ D := fun z => n (.inl (by rw [z]; exact hM))
    exact ⟨n, by rw [upd_ne nb]; exact h⟩
  refine ⟨I.len, fun j y h => ?_, fun j ds h => ?_, I.rs, fun a h => ?_, fun a h => ?_, I.inj⟩
  · obtain ⟨u, h1, h2⟩ := I.sl j y h
    exact ⟨u, h1, VR.mono sub h2⟩
  · obtain ⟨a, us, h1, h2, h3, h4, h5⟩ := I.ow j ds h
    have na : a ≠ D := fun z => h4 (by rw [z]; exact hM)
    exact ⟨a, us, h1, by rw [upd_ne na]; exact h2, drAll_mono sub _ _ h3, h4, h5⟩
  · obtain ⟨h1, sa, h2, h3⟩ := I.rk a h
    have na : a ≠ D := fun z => h1 (by rw [z]; exact hM)
    exact ⟨h1, sa, by rw [upd_ne na]; exact h2, sub.seq h3⟩
  · by_cases z : a = D
    · subst z; rw [upd_same]; simp
    · rw [upd_ne z]; exact I.m0 a h
/-- the frame ahead, the row behind; what the mask hides may have changed -/
theorem ER.back (I : ER P M r σ H ss rw) {H' : Hp} {rw' : Ro} (k : ∀ b o, H b = some o → r ≠ some b → ¬ M b → H' b = some o) (km : ∀ a, M a → H' a ≠ none)
    (hr : ∀ a, r = some a → ∃ sa, H' a = some (.lst [.ref sa, .int rw'.1, .int rw'.2]) ∧ SqL P.K (hdn (Msk M r σ ss) H') sa (P.ns.map V.int)) : ER P M r σ H' ss rw' := by
  have sub : Same (hdn (Msk M r σ ss) H) (hdn (Msk M r σ ss) H') := mk_same fun b o n e => ⟨n, k b o e (fun z => n (.inr (.inl z))) fun z => n (.inl z)⟩
  refine ⟨I.len, fun j y h => ?_, fun j ds h => ?_, I.rs, fun a h => ⟨(I.rk a h).1, hr a h⟩, km, I.inj⟩
  · obtain ⟨u, h1, h2⟩ := I.sl j y h
    exact ⟨u, h1, VR.mono sub h2⟩
  · obtain ⟨a, us, h1, h2, h3, h4, h5⟩ := I.ow j ds h
    exact ⟨a, us, h1, k _ _ h2 h5 h4, drAll_mono sub _ _ h3, h4, h5⟩
theorem KeepR.live (k : KeepR r H H') (I : ER P M r σ H ss rw) : ∀ a, M a → H' a ≠ none := fun a h => by
  have q := I.m0 a h
  cases z : H a with
  | none => exact absurd z q
  | some o =>
    by_cases hra : r = some a
    · exact absurd h (I.rk a hra).1
    · rw [k a o z hra]; simp
end
/-- the turns of a comprehension: from the slots ss (its own forgotten) -/
def lcGo (g : PyData → List Sl → Option (List Sl)) (tt : Mx Bool) (te : Mx Vl) (ss : List Sl) : List PyData → Ro → Option (List PyData × Ro)
  | [], rw => some ([], rw)
  | x :: xs, rw => match g x ss with
    | none => none
    | some ss1 => match tt ss1 rw with
      | none => none
      | some (true, rw1) => (match te ss1 rw1 with
        | some (.dat y, rw2) => (match lcGo g tt te ss xs rw2 with
          | some (ys, rw3) => some (y :: ys, rw3)
          | none => none)
        | _ => none)
      | some (false, rw1) => lcGo g tt te ss xs rw1
def mLc (vs : List Nat) (mi : Mx (List PyData)) (g : PyData → List Sl → Option (List Sl)) (tt : Mx Bool) (te : Mx Vl) : Mx (List PyData) := fun ss rw => if noOwn ss vs = true then
    (match mi ss rw with
    | some (xs, rw1) => if xs.length ≤ 100000 then lcGo g tt te (wipeS ss vs) xs rw1 else none
    | none => none)
  else none
def mYes : Mx Bool := pur true
theorem lcGo_len {g : PyData → List Sl → Option (List Sl)} {tt : Mx Bool} {te : Mx Vl} {ss : List Sl} : ∀ {xs ys : List PyData} {rw rw' : Ro}, lcGo g tt te ss xs rw = some (ys, rw') → ys.length ≤ xs.length
  | [], ys, rw, rw', h => by
    unfold lcGo at h
    cases h
    exact Nat.le_refl _
  | x :: xs, ys, rw, rw', h => by
    unfold lcGo at h
    split at h
    next => cases h
    next ss1 e1 =>
      split at h
      next => cases h
      next rw1 e2 =>
        split at h
        next y rw2 e3 =>
          split at h
          next zs rw3 e4 =>
            cases h
            have := lcGo_len e4
            simp only [List.length_cons]
            omega
          next => cases h
        next => cases h
      next rw1 e2 =>
        have := lcGo_len h
        simp only [List.length_cons]
        omega
section
variable {P : Pm} {mi : Mx (List PyData)} {g : PyData → List Sl → Option (List Sl)} {tt : Mx Bool} {te : Mx Vl} {t : TG} {vs : List Nat}
/-- the reading of a comprehension -/
theorem tL_lc (hg : GOk P t g vs) : ∀ σ H Q, tL P (mLc vs mi g tt te) σ H Q → tLc (tI P mi) t (tT P tt) (tE P te) vs σ H Q := by
  rintro σ H Q ⟨M, r, ss, rw, ds, rw', I, e, q⟩
  unfold mLc at e
  split at e
  next hn =>
    split at e
    next xs rw1 e1 =>
      split at e
      next hl =>
        refine ⟨M, r, ss, rw, xs, rw1, I, e1, fun J H1 k1 I1 wk => fun D hD => ?_⟩
        have hD0 : H D = none := by
          cases z : H D with
          | none => rfl
          | some o =>
            by_cases hr : r = some D
            · obtain ⟨_, sa, e, _⟩ := I1.rk D hr
              rw [hD] at e; cases e
            · rw [k1 D o z hr] at hD; cases hD
        -- the mask within
        let M' : Addr → Prop := fun a => M a ∨ a = D
        have IM : ER P M' r (wipe σ vs) (upd H1 D (.lst [])) (wipeS ss vs) rw1 := (I1.hide hD).wipe vs
        -- the turns: done (acc), left (xs.drop i)
        let Pv : Nat → Hp → Prop := fun i H2 => ∃ (acc : List PyData) (us : List V) (ys : List PyData) (rw2 : Ro), H2 D = some (.lst us) ∧ acc.length ≤ i ∧ ER P M' r (wipe σ vs) H2 (wipeS ss vs) rw2 ∧
          DRAll P.K (hdn (Msk M' r (wipe σ vs) (wipeS ss vs)) H2) us acc ∧ lcGo g tt te (wipeS ss vs) (xs.drop i) rw2 = some (ys, rw') ∧ ds = acc ++ ys ∧ KeepR r H1 H2
        have al : ∀ {H2 : Hp}, KeepR r H1 H2 → (∀ a, r = some a → H2 a ≠ none) → ∀ a, Msk M r σ ss a → H2 a ≠ none := fun {H2} k hr a z => by
          by_cases hra : r = some a
          · exact hr a hra
          · have z1 := I1.alloc a z
            cases y : H1 a with
            | none => exact absurd y z1
            | some o => rw [k a o y hra]; simp
        have W : Walk J xs.length (fun H2 => KeepR r H1 H2 ∧ ∀ a, r = some a → H2 a ≠ none) (fun i H2 x H3 => Same H2 H3 ∧ ∃ d, xs[i]? = some d ∧ ∀ S1, Same (hdn (Msk M r σ ss) H1) (hdn S1 H2) → (∀ a, S1 a → H2 a ≠ none) → DR P.K (hdn S1 H3) x d) := by
          refine ⟨fun i H2 hi h => ((wk _ H2 h.1.msk (al h.1 h.2)).1 i hi).1, fun H2 h => (wk _ H2 h.1.msk (al h.1 h.2)).2, fun i H2 x H3 hi h y => ?_⟩
          obtain ⟨s, d, h1, h2⟩ := ((wk _ H2 h.1.msk (al h.1 h.2)).1 i hi).2 x H3 y
          refine ⟨s, d, h1, fun S1 s1 a1 => ?_⟩
          obtain ⟨_, d', h1', h2'⟩ := ((wk S1 H2 s1 a1).1 i hi).2 x H3 y
          rw [h1] at h1'
          cases h1'
          exact h2'
        refine lc_it W Pv ⟨[], [], ds, rw1, upd_same, Nat.le_refl _, IM, .nil, e, rfl, KeepR.of (upd_same' hD)⟩ (fun i H2 _ p => by
          obtain ⟨acc, us, ys, rw2, _, _, I2, _, _, _, k⟩ := p
          exact ⟨k, fun a h => by obtain ⟨_, sa, e, _⟩ := I2.rk a h; rw [e]; simp⟩) ?_ ?_
        · rintro i x H2 H3 hi ⟨acc, us, ys, rw2, hus, hacc, I2, dr, e2, eds, k2⟩ ⟨s3, d, hd, hx⟩
          have sub : Same (hdn (Msk M r σ ss) H1) (hdn (Msk M' r (wipe σ vs) (wipeS ss vs)) H2) := mk_same fun b o n h => by
            have nb : b ≠ D := ne_of_none h hD
            refine ⟨fun z => ?_, k2 b o h fun z => n (.inr (.inl z))⟩
            rcases z with (z | z) | z | z
            · exact n (.inl z)
            · exact nb z
            · exact n (.inr (.inl z))
            · exact n (.inr (.inr (own_wipe z)))
          have hx' := hx _ sub I2.alloc
          have I3 := I2.grow s3
          rw [List.drop_eq_getElem_cons hi] at e2
          have ed : xs[i] = d := by
            rw [List.getElem?_eq_getElem hi] at hd
            exact Option.some.inj hd
          rw [ed] at e2
          unfold lcGo at e2
          split at e2
          next => cases e2
          next ss1 g1 =>
            refine hg M' r (wipe σ vs) H3 (wipeS ss vs) rw2 x d ss1 _ I3 hx' g1 fun σ1 o1 J1 w1 => ⟨wipe_same o1, ?_⟩
            have wi := wipe_same o1
            have subw : ∀ a, Msk M' r (wipe σ vs) (wipeS ss vs) a → Msk M' r σ1 ss1 a := fun a z => by
              rcases z with z | z | z
              · exact .inl z
              · exact .inr (.inl z)
              · obtain ⟨j, es, z1, z2⟩ := z
                have hj : j ∉ vs := fun y => by
                  rw [wipeS_at, if_pos y] at z1
                  cases q : ss[j]? with
                  | none => rw [q] at z1; cases z1
                  | some t => rw [q] at z1; cases z1
                exact .inr (.inr ⟨j, es, by rw [(o1.2.2 j hj).2]; exact z1, by rw [(o1.2.2 j hj).1]; exact z2⟩)
            -- back from the turn's slots
            have backI : ∀ {H4 : Hp} {rw4 : Ro}, KeepR r H3 H4 → ER P M' r σ1 H4 ss1 rw4 → ER P M' r (wipe σ vs) H4 (wipeS ss vs) rw4 := fun {H4 rw4} k4 I4 => by
              refine I3.back (fun b o e n _ => k4 b o e n) (k4.live I3) fun a h => ?_
              obtain ⟨_, sa, h1, h2⟩ := I4.rk a h
              exact ⟨sa, h1, (mk_sub subw).seq h2⟩
            have rD : r ≠ some D := fun z => (I2.rk D z).1 (.inr rfl)
            split at e2
            next => cases e2
            next rw5 t1 =>
              refine ⟨M', r, ss1, rw2, true, rw5, J1, t1, fun H4 k4 I4 => ?_⟩
              refine L2.iteT ?_
              split at e2
              next y rw6 t2 =>
                split at e2
                next zs rw7 t3 =>
                  cases e2
                  refine ⟨M', r, ss1, rw5, _, rw6, I4, t2, fun v H5 k5 I5 hv => ?_⟩
                  have hD3 := s3 D _ hus
                  have hD5 : H5 D = some (.lst us) := k5 D _ (k4 D _ hD3 rD) rD
                  refine ⟨us, hD5, ?_, ?_⟩
                  · rw [DRAll.length dr]
                    exact sz_lt (by omega)
                  · have I6 := backI (k4.trans k5) I5
                    have I7 : ER P M' r (wipe σ vs) (upd H5 D (.lst (us ++ [v]))) (wipeS ss vs) rw6 := I6.hid (.inr rfl)
                    have sH : Same (hdn (Msk M' r (wipe σ vs) (wipeS ss vs)) H5) (hdn (Msk M' r (wipe σ vs) (wipeS ss vs)) (upd H5 D (.lst (us ++ [v])))) := mk_same fun b o n h => by
                      have nb : b ≠ D := fun z => n (.inl (.inr z))
                      exact ⟨n, by rw [upd_ne nb]; exact h⟩
                    have c5 : Same (hdn (Msk M' r (wipe σ vs) (wipeS ss vs)) H2) (hdn (Msk M' r (wipe σ vs) (wipeS ss vs)) H5) := KeepR.msk (((KeepR.of s3).trans k4).trans k5)
                    refine ⟨acc ++ [y], us ++ [v], zs, rw6, upd_same, by rw [List.length_append]; simp; omega, I7, ?_, t3, by rw [eds]; simp, ?_⟩
                    · refine DRAll.append (drAll_mono sH _ _ (drAll_mono c5 _ _ dr)) (.cons ?_ .nil)
                      refine dr_mono sH _ _ ?_
                      -- what the element is is seen outside, too
                      have hv' : DR P.K (hdn (Msk M' r σ1 ss1) H5) v y := hv
                      exact dr_mono (mk_sub subw) _ _ hv'
                    · intro b o hb hr
                      have nb : b ≠ D := ne_of_none hb hD
                      rw [upd_ne nb]
                      exact k5 b o (k4 b o (s3 b o (k2 b o hb hr)) hr) hr
                next => cases e2
              next => cases e2
            next rw5 t1 =>
              refine ⟨M', r, ss1, rw2, false, rw5, J1, t1, fun H4 k4 I4 => ?_⟩
              refine L2.iteF ?_
              have hD3 := s3 D _ hus
              have c4 : Same (hdn (Msk M' r (wipe σ vs) (wipeS ss vs)) H2) (hdn (Msk M' r (wipe σ vs) (wipeS ss vs)) H4) := KeepR.msk ((KeepR.of s3).trans k4)
              exact ⟨acc, us, ys, rw5, k4 D _ hD3 rD, by omega, backI k4 I4, drAll_mono c4 _ _ dr, e2, eds, fun b o hb hr => k4 b o (s3 b o (k2 b o hb hr)) hr⟩
        · rintro H2 ⟨acc, us, ys, rw2, hus, hacc, I2, dr, e2, eds, k2⟩
          rw [List.drop_length] at e2
          unfold lcGo at e2
          cases e2
          rw [List.append_nil] at eds
          subst eds
          have sub0 : ∀ a, Msk M' r σ ss a → Msk M' r (wipe σ vs) (wipeS ss vs) a := fun a z => by
            rcases z with z | z | z
            · exact .inl z
            · exact .inr (.inl z)
            · exact .inr (.inr (own_unwipe hn z))
          have IH : ER P M' r σ (upd H1 D (.lst [])) ss rw1 := I1.hide hD
          have IE : ER P M' r σ H2 ss rw' := by
            refine IH.back (fun b o hb n nm => ?_) I2.m0 fun a h => ?_
            · have nb : b ≠ D := fun z => nm (.inr z)
              rw [upd_ne nb] at hb
              exact k2 b o hb n
            · obtain ⟨_, sa, h1, h2⟩ := I2.rk a h
              exact ⟨sa, h1, (mk_sub sub0).seq h2⟩
          exact q D us H2 (k1.trans k2) IE hD0 hus (drAll_mono (mk_sub sub0) _ _ dr)
      next => cases e
    next => cases e
  next => cases e
end
end FL
/-! Comprehensions as expressions, calls, statements, defs. -/
namespace FL
open PySem L2

section
variable {P : Pm} {X : Cx}
theorem fl_lc {elt tg iter : Expr} {ifs : List Expr} {scope : Scope} {own : List (Str × Nat)} {pos : Pos} {mi : Mx (List PyData)} {g : PyData → List Sl → Option (List Sl)} {tt : Mx Bool} {te : Mx Vl} {t : TG} {vs : List Nat}
    (hi : FI X P tg iter mi) (ok : BlkOk X.N X.env.scope scope own) (hv : own.map (·.2) = vs) (hg : GOk P t g vs)
    (hgp : ∀ (s : Shared) (H : Hp) (C : Addr) (cl : List (Str × Addr)) (fp : List Addr), PG (X.blk s H scope (compEnvC scope cl C X.env) fp) tg t) (ht : ∀ (s : Shared) (H : Hp) (C : Addr) (cl : List (Str × Addr)) (fp : List Addr), PTs (X.blk s H scope (compEnvC scope cl C X.env) fp) ifs (tT P tt))
    (he : ∀ (s : Shared) (H : Hp) (C : Addr) (cl : List (Str × Addr)) (fp : List Addr), FE (X.blk s H scope (compEnvC scope cl C X.env) fp) P elt te) (hN : X.N.Nodup) (hc : X.calm = true := by rfl) (hs : ∀ x, foldedSetIterable iter X.env x = pure x := by intro _; rfl) :
    FL X P (.ListComp elt [⟨tg, iter, ifs, 0⟩] scope pos) (mLc vs mi g tt te) := by
  subst hv
  exact PE.imp (pe_lc hc hN hi ok hgp ht he hs) (tL_lc hg)
theorem fts_nil : PTs X [] (tT P mYes) := ⟨fun pins s σ H Q I h => by
  refine pts_nil.run pins s σ H Q I ?_
  obtain ⟨M, r0, ss, rw, z, rw', I, e, q⟩ := h
  obtain ⟨rfl, rfl⟩ := pur_some e
  exact q H (KeepR.refl _ _) I⟩
theorem fts_one {c : Expr} {m : Mx Bool} (h : FT X P c m) : PTs X [c] (tT P m) := pts_one h
/-- name = [..]: as it is read, to be stored -/
theorem st_lc {i : Nat} {y : Str} {py : Pos} {elt tg iter : Expr} {ifs : List Expr} {scope : Scope} {own : List (Str × Nat)} {pos spos : Pos} {mi : Mx (List PyData)} {g : PyData → List Sl → Option (List Sl)} {tt : Mx Bool} {te : Mx Vl} {t : TG} {vs : List Nat}
    (hy : X.N[i]? = some y) (hyl : X.env.scope.names.lookup y = some .local) (hsw : swapsWith (.ListComp elt [⟨tg, iter, ifs, 0⟩] scope pos) (some (.Name y py)) spos.line X.env = pure true)
    (hi : FI X P tg iter mi) (ok : BlkOk X.N X.env.scope scope own) (hv : own.map (·.2) = vs) (hg : GOk P t g vs)
    (hgp : ∀ (s : Shared) (H : Hp) (C : Addr) (cl : List (Str × Addr)) (fp : List Addr), PG (X.blk s H scope (compEnvC scope cl C X.env) fp) tg t) (ht : ∀ (s : Shared) (H : Hp) (C : Addr) (cl : List (Str × Addr)) (fp : List Addr), PTs (X.blk s H scope (compEnvC scope cl C X.env) fp) ifs (tT P tt))
    (he : ∀ (s : Shared) (H : Hp) (C : Addr) (cl : List (Str × Addr)) (fp : List Addr), FE (X.blk s H scope (compEnvC scope cl C X.env) fp) P elt te) (hN : X.N.Nodup) (hc : X.calm = true := by rfl) (hs : ∀ x, foldedSetIterable iter X.env x = pure x := by intro _; rfl) :
    PS X (.Assign [.Name y py] (.ListComp elt [⟨tg, iter, ifs, 0⟩] scope pos) spos) (tAsg (tL P (mLc vs mi g tt te)) (gName i)) := by
  subst hv
  exact PS.imp (ps_setLc hc hN hy hyl hsw hi ok hgp ht he hs) fun D σ H h => tL_lc hg σ H _ h
end

/-! ### exceptions -/
/-- an exception of the class that P.ex tells, with its fields -/
structure Exn where
  c : Nat
  fs : List (Str × PyData)
inductive Res where
  | ok (x : Vl)
  | er (e : Exn)
/-- what an exception is: fx tells the classes' places -/
def ExR (P : Pm) (fx : Nat → Addr) (x : Exn) (cls : Value) (d : Option Addr) (H : Hp) : Prop := cls = .ref (fx x.c) ∧
  ((x.fs = [] ∧ d = none) ∨ ∃ dd vs, x.fs ≠ [] ∧ d = some dd ∧ H dd = some (.xd vs) ∧ Paired (fun (p : Str × V) (q : Str × PyData) => p.1 = q.1 ∧ DR P.K H p.2 q.2) vs x.fs)

/-! ### what stands behind a statement -/
inductive Ou where
  | nx (ss : List Sl) (rw : Ro)
  | bk (ss : List Sl) (rw : Ro)
  | ct (ss : List Sl) (rw : Ro)
  | rt (x : Vl) (rw : Ro)
  /-- a list of one's own is handed back -/
  | rl (ds : List PyData) (rw : Ro)
  | er (x : Exn) (ss : List Sl) (rw : Ro)
abbrev Sx := List Sl → Ro → Option Ou
def KeepO (r : Option Addr) (σ : St) (H : Hp) (ss : List Sl) (H' : Hp) : Prop := ∀ b o, H b = some o → r ≠ some b → ¬ Own σ ss b → H' b = some o
structure Gr (r : Option Addr) (σ : St) (H : Hp) (ss : List Sl) (σ' : St) (H' : Hp) (ss' : List Sl) : Prop where
  keep : KeepO r σ H ss H'
  own : ∀ a, Own σ' ss' a → Own σ ss a ∨ H a = none
  /-- what was there is there -/
  live : ∀ b, H b ≠ none → H' b ≠ none
def RowAt (P : Pm) (M : Addr → Prop) (r : Option Addr) (H : Hp) (rw : Ro) : Prop := ∀ a, r = some a → ∃ sa, H a = some (.lst [.ref sa, .int rw.1, .int rw.2]) ∧ SqL P.K (hdn (fun a => M a ∨ r = some a) H) sa (P.ns.map V.int)
def OuP (P : Pm) (fx : Nat → Addr) (W : WX) (M : Addr → Prop) (r : Option Addr) (σ : St) (H : Hp) (ss : List Sl) (D : Ends) : Ou → Prop
  | .nx ss' rw' => ∀ σ' H', Gr r σ H ss σ' H' ss' → ER P M r σ' H' ss' rw' → D.nx σ' H'
  | .bk ss' rw' => ∀ σ' H', Gr r σ H ss σ' H' ss' → ER P M r σ' H' ss' rw' → D.bk σ' H'
  | .ct ss' rw' => ∀ σ' H', Gr r σ H ss σ' H' ss' → ER P M r σ' H' ss' rw' → D.ct σ' H'
  | .rt x rw' => ∀ v H', KeepO r σ H ss H' → (∀ b, H b ≠ none → H' b ≠ none) → RowAt P M r H' rw' → VR P (hdn (fun a => M a ∨ r = some a) H') v x → D.rt v H'
  | .rl ds rw' => ∀ p vs H', KeepO r σ H ss H' → (∀ b, H b ≠ none → H' b ≠ none) → RowAt P M r H' rw' → (Own σ ss p ∨ H p = none) → ¬ M p → r ≠ some p → H' p = some (.lst vs) → DRAll P.K (hdn (fun a => (M a ∨ r = some a) ∨ a = p) H') vs ds → D.rt (.ref p) H'
  | .er x ss' rw' => ∀ σ' cls d H', Gr r σ H ss σ' H' ss' → ER P M r σ' H' ss' rw' → ExR P fx x cls d H' → W cls d σ' H'
def tS (P : Pm) (fx : Nat → Addr) (W : WX) (m : Sx) : TS := fun D σ H => ∃ M r ss rw o, ER P M r σ H ss rw ∧ m ss rw = some o ∧ OuP P fx W M r σ H ss D o
abbrev FS (X : Cx) (P : Pm) (fx : Nat → Addr) (W : WX) (st : Stmt) (m : Sx) : Prop := PS X st (tS P fx W m)
abbrev FSs (X : Cx) (P : Pm) (fx : Nat → Addr) (W : WX) (sts : List Stmt) (m : Sx) : Prop := PSs X sts (tS P fx W m)

section
variable {P : Pm} {X : Cx} {fx : Nat → Addr} {W : WX} {M : Addr → Prop} {r : Option Addr} {σ σ1 σ2 : St} {H H1 H2 : Hp} {ss ss1 ss2 : List Sl} {rw rw1 : Ro}
theorem Gr.refl : Gr r σ H ss σ H ss := ⟨fun _ _ e _ _ => e, fun _ z => .inl z, fun _ z => z⟩
theorem KeepO.after (g : Gr r σ H ss σ1 H1 ss1) {H2 : Hp} (k : KeepO r σ1 H1 ss1 H2) : KeepO r σ H ss H2 := fun b o e n no => by
  refine k b o (g.keep b o e n no) n fun z => ?_
  rcases g.own b z with z | z
  · exact no z
  · rw [z] at e; cases e
theorem Gr.trans (a : Gr r σ H ss σ1 H1 ss1) (b : Gr r σ1 H1 ss1 σ2 H2 ss2) : Gr r σ H ss σ2 H2 ss2 := ⟨KeepO.after a b.keep, fun x z => by
  rcases b.own x z with z | z
  · exact a.own x z
  · refine .inr ?_
    cases q : H x with
    | none => rfl
    | some o => exact absurd z (a.live x (by rw [q]; simp)), fun x z => b.live x (a.live x z)⟩
theorem Gr.ofR (k : KeepR r H H1) (I1 : ER P M r σ H1 ss rw1) : Gr r σ H ss σ H1 ss := ⟨fun b o e n _ => k b o e n, fun _ z => .inl z, fun b z => by
  by_cases hr : r = some b
  · obtain ⟨_, sa, e, _⟩ := I1.rk b hr
    rw [e]; simp
  · cases q : H b with
    | none => exact absurd q z
    | some o => rw [k b o q hr]; simp⟩
theorem OuP.after {D : Ends} (g : Gr r σ H ss σ1 H1 ss1) : ∀ {o : Ou}, OuP P fx W M r σ H ss D o → OuP P fx W M r σ1 H1 ss1 D o
  | .nx ss' rw', h => fun σ' H' g' I' => h σ' H' (g.trans g') I'
  | .bk ss' rw', h => fun σ' H' g' I' => h σ' H' (g.trans g') I'
  | .ct ss' rw', h => fun σ' H' g' I' => h σ' H' (g.trans g') I'
  | .rt x rw', h => fun v H' k l ra hv => h v H' (KeepO.after g k) (fun b z => l b (g.live b z)) ra hv
  | .rl ds rw', h => fun p vs H' k l ra ho hm hr hp hv => h p vs H' (KeepO.after g k) (fun b z => l b (g.live b z)) ra (by
      rcases ho with ho | ho
      · exact g.own p ho
      · refine .inr ?_
        cases q : H p with
        | none => rfl
        | some o => exact absurd ho (g.live p (by rw [q]; simp))) hm hr hp hv
  | .er x ss' rw', h => fun σ' cls d H' g' I' hx => h σ' cls d H' (g.trans g') I' hx
theorem ER.rowAt (I : ER P M r σ H ss rw) : RowAt P M r H rw := fun a h => by
  obtain ⟨_, sa, h1, h2⟩ := I.rk a h
  refine ⟨sa, h1, (mk_sub fun b z => ?_).seq h2⟩
  rcases z with z | z
  · exact .inl z
  · exact .inr (.inl z)
theorem msk_out : ∀ a, (M a ∨ r = some a) → Msk M r σ ss a := fun a z => by
  rcases z with z | z
  · exact .inl z
  · exact .inr (.inl z)

/-! ### blocks -/
def sNx : Sx := fun ss rw => some (.nx ss rw)
def sSeq (a b : Sx) : Sx := fun ss rw => match a ss rw with
  | some (.nx ss1 rw1) => b ss1 rw1
  | o => o
theorem tS_seq {a b : Sx} : ∀ D σ H, tS P fx W (sSeq a b) D σ H → tSeq (tS P fx W a) (tS P fx W b) D σ H := by
  rintro D σ H ⟨M, r, ss, rw, o, I, e, q⟩
  unfold sSeq at e
  split at e
  next ss1 rw1 e1 =>
    exact ⟨M, r, ss, rw, _, I, e1, fun σ1 H1 g1 I1 => ⟨M, r, ss1, rw1, o, I1, e, OuP.after g1 q⟩⟩
  next hne =>
    refine ⟨M, r, ss, rw, o, I, e, ?_⟩
    cases o with
    | nx ss1 rw1 => exact absurd e (hne ss1 rw1)
    | bk ss1 rw1 => exact q
    | ct ss1 rw1 => exact q
    | rt x rw1 => exact q
    | rl ds rw1 => exact q
    | er x ss1 rw1 => exact q
theorem fss_nil : FSs X P fx W [] sNx := PSs.imp pss_nil fun D σ H ⟨M, r, ss, rw, o, I, e, q⟩ => by
  cases e
  exact q σ H Gr.refl I
theorem fss_cons {st : Stmt} {rest : List Stmt} {a b : Sx} (h1 : FS X P fx W st a) (h2 : FSs X P fx W rest b) : FSs X P fx W (st :: rest) (sSeq a b) := PSs.imp (pss_cons h1 h2) tS_seq
theorem fss_one {st : Stmt} {a : Sx} (h1 : FS X P fx W st a) : FSs X P fx W [st] a := pss_one h1
theorem fs_pass {pos : Pos} : FS X P fx W (.Pass pos) sNx := PS.imp ps_pass fun D σ H ⟨M, r, ss, rw, o, I, e, q⟩ => by
  cases e
  exact q σ H Gr.refl I
def sBk : Sx := fun ss rw => some (.bk ss rw)
def sCt : Sx := fun ss rw => some (.ct ss rw)
theorem fs_break {pos : Pos} : FS X P fx W (.Break pos) sBk := PS.imp ps_break fun D σ H ⟨M, r, ss, rw, o, I, e, q⟩ => by
  cases e
  exact q σ H Gr.refl I
theorem fs_continue {pos : Pos} : FS X P fx W (.Continue pos) sCt := PS.imp ps_continue fun D σ H ⟨M, r, ss, rw, o, I, e, q⟩ => by
  cases e
  exact q σ H Gr.refl I
/-- a place that is never come to -/
def sNo : Sx := fun _ _ => none
theorem fs_no {st : Stmt} : FS X P fx W st sNo := PS.imp ps_never fun D σ H ⟨M, r, ss, rw, o, I, e, q⟩ => by cases e
theorem fss_no {st : List Stmt} : FSs X P fx W st sNo := PSs.imp pss_never fun D σ H ⟨M, r, ss, rw, o, I, e, q⟩ => by cases e

/-! ### stores -/
variable {m : Mx Vl} {ml : Mx (List PyData)} {i : Nat}
def sSet (i : Nat) (m : Mx Vl) : Sx := fun ss rw => match m ss rw with
  | some (x, rw1) => (match putS i (.vl x) ss with
    | some ss1 => some (.nx ss1 rw1)
    | none => none)
  | none => none
theorem own_setv {i : Nat} {v : V} {x : Vl} {a : Addr} (h : Own (σ.set i (some v)) (ss.set i (.vl x)) a) : Own σ ss a := own_set h
theorem Gr.setv {i : Nat} {v : V} {x : Vl} : Gr r σ H ss (σ.set i (some v)) H (ss.set i (.vl x)) := ⟨fun _ _ e _ _ => e, fun _ z => .inl (own_set z), fun _ z => z⟩
theorem tS_set {t : TE} (h : ∀ σ H Q, tE P m σ H Q → t σ H Q) : ∀ D σ H, tS P fx W (sSet i m) D σ H → tAsg t (gName i) D σ H := by
  rintro D σ H ⟨M, r, ss, rw, o, I, e, q⟩
  unfold sSet at e
  split at e
  next x rw1 e1 =>
    unfold putS at e
    split at e
    next ss1 e2 =>
      split at e2
      next hi =>
        cases e2
        cases e
        refine h σ H _ ⟨M, r, ss, rw, x, rw1, I, e1, fun v H1 k1 I1 hv => ?_⟩
        exact q _ H1 ((Gr.ofR k1 I1).trans Gr.setv) (I1.setv hi hv)
      next => cases e2
    next => cases e
  next => cases e
theorem fs_set {x : Str} {e : Expr} {pos pos' : Pos} (hi : X.N[i]? = some x) (hx : Loc X.env.scope x) (he : FE X P e m) (hN : X.N.Nodup) (hf : X.fn x = true ∨ X.env.scope.names.lookup x = some .local) (hs : swapsWith e (some (.Name x pos')) pos.line X.env = pure false := by rfl) :
    FS X P fx W (.Assign [.Name x pos'] e pos) (sSet i m) := PS.imp (ps_set hN hi hx he hs hf) (tS_set fun _ _ _ h => h)
/-- a list of one's own -/
def sOwn (i : Nat) (m : Mx (List PyData)) : Sx := fun ss rw => match m ss rw with
  | some (ds, rw1) => (match putS i (.own ds) ss with
    | some ss1 => some (.nx ss1 rw1)
    | none => none)
  | none => none
theorem own_seto {i : Nat} {p : Addr} {ds : List PyData} {a : Addr} (hl : σ.length = ss.length) (h : Own (σ.set i (some (.ref p))) (ss.set i (.own ds)) a) : Own σ ss a ∨ a = p := by
  obtain ⟨j, es, h1, h2⟩ := h
  by_cases hj : i = j
  · subst hj
    by_cases hb : i < ss.length
    · rw [List.getElem?_set_self (by rw [hl]; exact hb)] at h2
      cases h2
      exact .inr rfl
    · rw [List.getElem?_eq_none (by simpa using hb)] at h1
      cases h1
  · rw [List.getElem?_set_ne hj] at h1 h2
    exact .inl ⟨j, es, h1, h2⟩
theorem ER.seto {p : Addr} (Ik : ER P (fun a => M a ∨ a = p) r σ H ss rw) {vs : List V} {ds : List PyData} (hi : i < ss.length) (hM : ¬ M p) (hp : H p = some (.lst vs))
    (hv : DRAll P.K (hdn (Msk (fun a => M a ∨ a = p) r σ ss) H) vs ds) : ER P M r (σ.set i (some (.ref p))) H (ss.set i (.own ds)) rw := by
  have hr : r ≠ some p := fun z => (Ik.rk p z).1 (.inr rfl)
  have ho : ¬ Own σ ss p := fun ⟨j, es, h1, h2⟩ => by
    obtain ⟨a, us, g1, _, _, g4, _⟩ := Ik.ow j es h1
    rw [h2] at g1
    cases g1
    exact g4 (.inr rfl)
  -- what is seen without p is seen where p is one's own
  have sub : ∀ a, Msk M r (σ.set i (some (.ref p))) (ss.set i (.own ds)) a → Msk (fun a => M a ∨ a = p) r σ ss a := fun a z => by
    rcases z with z | z | z
    · exact .inl (.inl z)
    · exact .inr (.inl z)
    · rcases own_seto Ik.len z with z | z
      · exact .inr (.inr z)
      · exact .inl (.inr z)
  refine ⟨by rw [List.length_set, List.length_set]; exact Ik.len, fun j y h => ?_, fun j es h => ?_, fun j h => ?_, fun a h => ?_, fun a h => Ik.m0 a (.inl h), fun j k a es fs h1 h2 h3 h4 => ?_⟩
  · by_cases hj : i = j
    · subst hj
      rw [List.getElem?_set_self hi] at h
      cases h
    · rw [List.getElem?_set_ne hj] at h ⊢
      obtain ⟨u, h1, h2⟩ := Ik.sl j y h
      exact ⟨u, h1, VR.mono (mk_sub sub) h2⟩
  · by_cases hj : i = j
    · subst hj
      rw [List.getElem?_set_self hi] at h
      cases h
      exact ⟨p, vs, List.getElem?_set_self (by rw [Ik.len]; exact hi), hp, drAll_mono (mk_sub sub) _ _ hv, hM, hr⟩
    · rw [List.getElem?_set_ne hj] at h ⊢
      obtain ⟨a, us, h1, h2, h3, h4, h5⟩ := Ik.ow j es h
      exact ⟨a, us, h1, h2, drAll_mono (mk_sub sub) _ _ h3, fun z => h4 (.inl z), h5⟩
  · by_cases hj : i = j
    · subst hj
      rw [List.getElem?_set_self hi] at h
      cases h
    · rw [List.getElem?_set_ne hj] at h ⊢
      exact Ik.rs j h
  · obtain ⟨h1, sa, h2, h3⟩ := Ik.rk a h
    exact ⟨fun z => h1 (.inl z), sa, h2, (mk_sub sub).seq h3⟩
  · have at_ : ∀ (l : Nat) (gs : List PyData), (ss.set i (.own ds))[l]? = some (.own gs) → (σ.set i (some (.ref p)))[l]? = some (some (.ref a)) → (l = i ∧ a = p) ∨ (l ≠ i ∧ ss[l]? = some (.own gs) ∧ σ[l]? = some (some (.ref a))) := fun l gs e1 e2 => by
      by_cases hl : i = l
      · subst hl
        rw [List.getElem?_set_self (by rw [Ik.len]; exact hi)] at e2
        cases e2
        exact .inl ⟨rfl, rfl⟩
      · rw [List.getElem?_set_ne hl] at e1 e2
        exact .inr ⟨Ne.symm hl, e1, e2⟩
    rcases at_ j es h1 h3 with ⟨rfl, rfl⟩ | ⟨n1, e1, e2⟩
    · rcases at_ k fs h2 h4 with ⟨rfl, _⟩ | ⟨n2, e3, e4⟩
      · rfl
      · exact absurd ⟨k, fs, e3, e4⟩ ho
    · rcases at_ k fs h2 h4 with ⟨_, rfl⟩ | ⟨n2, e3, e4⟩
      · exact absurd ⟨j, es, e1, e2⟩ ho
      · exact Ik.inj j k a es fs e1 e3 e2 e4
theorem tS_own {t : TE} (h : ∀ σ H Q, tL P ml σ H Q → t σ H Q) : ∀ D σ H, tS P fx W (sOwn i ml) D σ H → tAsg t (gName i) D σ H := by
  rintro D σ H ⟨M, r, ss, rw, o, I, e, q⟩
  unfold sOwn at e
  split at e
  next ds rw1 e1 =>
    unfold putS at e
    split at e
    next ss1 e2 =>
      split at e2
      next hi =>
        cases e2
        cases e
        refine h σ H _ ⟨M, r, ss, rw, ds, rw1, I, e1, fun p vs H1 k1 I1 hp hp1 hv => ?_⟩
        have hM : ¬ M p := fun z => I.m0 p z hp
        refine q _ H1 ⟨fun b o e n _ => k1 b o e n, fun a z => ?_, (Gr.ofR (ss := ss) k1 I1.unhide).live⟩ (I1.seto hi hM hp1 hv)
        rcases own_seto I.len z with z | z
        · exact .inl z
        · rw [z]
          exact .inr hp
      next => cases e2
    next => cases e
  next => cases e
end
end FL
/-! Own lists, if, for, while, return, calls, defs. -/
namespace FL
open PySem L2
section
variable {P : Pm} {X : Cx} {fx : Nat → Addr} {W : WX} {M : Addr → Prop} {r : Option Addr} {σ σ1 σ2 : St} {H H1 H2 : Hp} {ss ss1 ss2 : List Sl} {rw rw1 : Ro} {m : Mx Vl} {i : Nat}

/-! ### own lists -/
/-- an own list changes -/
theorem ER.owned (I : ER P M r σ H ss rw) {p : Addr} {us : List V} {ds es : List PyData} (hi : ss[i]? = some (.own ds)) (hs : σ[i]? = some (some (.ref p))) (hv : DRAll P.K (hdn (Msk M r σ ss) H) us es) :
    ER P M r σ (upd H p (.lst us)) (ss.set i (.own es)) rw ∧ Gr r σ H ss σ (upd H p (.lst us)) (ss.set i (.own es)) := by
  obtain ⟨p', vs, h1, hp, _, hM, hr⟩ := I.ow i ds hi
  rw [hs] at h1
  cases h1
  have hl : i < ss.length := (List.getElem?_eq_some_iff.mp hi).1
  have own_eq : ∀ a, Own σ (ss.set i (.own es)) a ↔ Own σ ss a := fun a => by
    constructor
    · rintro ⟨j, gs, h1, h2⟩
      by_cases hj : i = j
      · subst hj
        exact ⟨i, ds, hi, h2⟩
      · rw [List.getElem?_set_ne hj] at h1
        exact ⟨j, gs, h1, h2⟩
    · rintro ⟨j, gs, h1, h2⟩
      by_cases hj : i = j
      · subst hj
        exact ⟨i, es, List.getElem?_set_self hl, h2⟩
      · exact ⟨j, gs, by rw [List.getElem?_set_ne hj]; exact h1, h2⟩
  have po : Own σ ss p := ⟨i, ds, hi, hs⟩
  have sub : Same (hdn (Msk M r σ ss) H) (hdn (Msk M r σ (ss.set i (.own es))) (upd H p (.lst us))) := mk_same fun b o n h => by
    have nb : b ≠ p := fun z => n (.inr (.inr (by rw [z]; exact po)))
    refine ⟨fun z => ?_, by rw [upd_ne nb]; exact h⟩
    rcases z with z | z | z
    · exact n (.inl z)
    · exact n (.inr (.inl z))
    · exact n (.inr (.inr ((own_eq b).mp z)))
  refine ⟨⟨by rw [List.length_set]; exact I.len, fun j y h => ?_, fun j gs h => ?_, fun j h => ?_, fun a h => ?_, fun a h => ?_, fun j k a gs fs h1 h2 h3 h4 => ?_⟩, ⟨fun b o e n no => ?_, fun a z => .inl ((own_eq a).mp z), fun b z => ?_⟩⟩
  · by_cases hj : i = j
    · subst hj
      rw [List.getElem?_set_self hl] at h
      cases h
    · rw [List.getElem?_set_ne hj] at h
      obtain ⟨u, h1, h2⟩ := I.sl j y h
      exact ⟨u, h1, VR.mono sub h2⟩
  · by_cases hj : i = j
    · subst hj
      rw [List.getElem?_set_self hl] at h
      cases h
      exact ⟨p, us, hs, upd_same, drAll_mono sub _ _ hv, hM, hr⟩
    · rw [List.getElem?_set_ne hj] at h
      obtain ⟨a, ws, h1, h2, h3, h4⟩ := I.ow j gs h
      have na : a ≠ p := fun z => by
        subst z
        exact hj (I.inj i j a ds gs hi h hs h1)
      exact ⟨a, ws, h1, by rw [upd_ne na]; exact h2, drAll_mono sub _ _ h3, h4⟩
  · by_cases hj : i = j
    · subst hj
      rw [List.getElem?_set_self hl] at h
      cases h
    · rw [List.getElem?_set_ne hj] at h
      exact I.rs j h
  · obtain ⟨h1, sa, h2, h3⟩ := I.rk a h
    have na : a ≠ p := fun z => hr (by rw [← z]; exact h)
    exact ⟨h1, sa, by rw [upd_ne na]; exact h2, sub.seq h3⟩
  · by_cases z : a = p
    · subst z; rw [upd_same]; simp
    · rw [upd_ne z]; exact I.m0 a h
  · have at_ : ∀ (l : Nat) (ts : List PyData), (ss.set i (.own es))[l]? = some (.own ts) → ∃ ts', ss[l]? = some (.own ts') := fun l ts e1 => by
      by_cases hl' : i = l
      · subst hl'
        exact ⟨ds, hi⟩
      · rw [List.getElem?_set_ne hl'] at e1
        exact ⟨ts, e1⟩
    obtain ⟨g1, e1⟩ := at_ j gs h1
    obtain ⟨g2, e2⟩ := at_ k fs h2
    exact I.inj j k a g1 g2 e1 e2 h3 h4
  · have nb : b ≠ p := fun z => no (by rw [z]; exact po)
    rw [upd_ne nb]
    exact e
  · by_cases y : b = p
    · subst y; rw [upd_same]; simp
    · rw [upd_ne y]; exact z
/-- x.append(e), x an own list -/
def sApp (i : Nat) (m : Mx Vl) : Sx := fun ss rw => match ss[i]? with
  | some (.own ds) => (match m ss rw with
    | some (.dat d, rw1) => if ds.length < 100000 then some (.nx (ss.set i (.own (ds ++ [d]))) rw1) else none
    | _ => none)
  | _ => none
theorem fs_append {x : Str} {e : Expr} {p0 p1 p2 p3 : Pos} (hv : PE X (.Name x p0) (tVar i)) (he : FE X P e m) (hbase : attributeBase (.Name x p0) "append" X.env (eval (.Name x p0) X.env) = eval (.Name x p0) X.env := by rfl)
    (hfew : ((backTo p2 (starEach [e] X.env)).all (fun x => !x.1) && (backToKw p2 (keywordEach [] X.env)).all (fun x => x.1.isSome)
      && decide ([e].length + ([] : List Keyword).length + (if ([] : List Keyword).isEmpty then 0 else 1) < 30)) = true := by rfl)
    (hline : (p1.endLine == p2.line) = true := by rfl) (hs : starEach [e] X.env = (false, eval e X.env) :: starEach [] X.env := by rfl) (hplain : (backTo p2 (starEach [] X.env)).any (·.1) = false := by rfl)
    (hsw : swapsWith (.Call (.Attribute (.Name x p0) "append" p1) [e] [] p2) none p3.line X.env = pure false := by rfl) :
    FS X P fx W (.Expr (.Call (.Attribute (.Name x p0) "append" p1) [e] [] p2) p3) (sApp i m) := by
  refine PS.imp (ps_expr (pe_bm PySem.F.plainAttrs_list PySem.F.slot_list_append PySem.F.type_list_append mt_append hv (pa_cons he pa_nil hs) hbase hfew hline hs hplain) hsw) ?_
  rintro D σ H ⟨M, r, ss, rw, o, I, e, q⟩
  unfold sApp at e
  split at e
  next ds hi =>
    split at e
    next d rw1 e1 =>
      split at e
      next hl =>
        cases e
        obtain ⟨p, vs, h1, h2, h3, h4, h5⟩ := I.ow i ds hi
        refine ⟨_, h1, .inl ⟨rfl, vs, SqL.of h2⟩, M, r, ss, rw, _, rw1, I, e1, fun v H1 k1 I1 hv => ?_⟩
        obtain ⟨p', vs', g1, g2, g3, _⟩ := I1.ow i ds hi
        rw [h1] at g1
        cases g1
        refine ⟨p, vs', v, rfl, rfl, g2, by rw [DRAll.length g3]; exact sz_lt hl, ?_⟩
        obtain ⟨J, G⟩ := I1.owned hi h1 (DRAll.append g3 (.cons hv .nil))
        exact q _ _ ((Gr.ofR k1 I1).trans G) J
      next => cases e
    next => cases e
  next => cases e
/-- x.extend(e), x an own list -/
def sExt (i : Nat) (m : Mx Vl) : Sx := fun ss rw => match ss[i]? with
  | some (.own ds) => (match m ss rw with
    | some (.dat (.list es), rw1) => if ds.length + es.length ≤ 100000 then some (.nx (ss.set i (.own (ds ++ es))) rw1) else none
    | _ => none)
  | _ => none
theorem fs_extend {x : Str} {e : Expr} {p0 p1 p2 p3 : Pos} (hv : PE X (.Name x p0) (tVar i)) (he : FE X P e m) (hbase : attributeBase (.Name x p0) "extend" X.env (eval (.Name x p0) X.env) = eval (.Name x p0) X.env := by rfl)
    (hfew : ((backTo p2 (starEach [e] X.env)).all (fun x => !x.1) && (backToKw p2 (keywordEach [] X.env)).all (fun x => x.1.isSome)
      && decide ([e].length + ([] : List Keyword).length + (if ([] : List Keyword).isEmpty then 0 else 1) < 30)) = true := by rfl)
    (hline : (p1.endLine == p2.line) = true := by rfl) (hs : starEach [e] X.env = (false, eval e X.env) :: starEach [] X.env := by rfl) (hplain : (backTo p2 (starEach [] X.env)).any (·.1) = false := by rfl)
    (hsw : swapsWith (.Call (.Attribute (.Name x p0) "extend" p1) [e] [] p2) none p3.line X.env = pure false := by rfl) :
    FS X P fx W (.Expr (.Call (.Attribute (.Name x p0) "extend" p1) [e] [] p2) p3) (sExt i m) := by
  refine PS.imp (ps_expr (pe_bm PySem.F.plainAttrs_list PySem.F.slot_list_extend PySem.F.type_list_extend mt_extend hv (pa_cons he pa_nil hs) hbase hfew hline hs hplain) hsw) ?_
  rintro D σ H ⟨M, r, ss, rw, o, I, e, q⟩
  unfold sExt at e
  split at e
  next ds hi =>
    split at e
    next es rw1 e1 =>
      split at e
      next hl =>
        cases e
        obtain ⟨p, vs, h1, h2, h3, h4, h5⟩ := I.ow i ds hi
        refine ⟨_, h1, .inl ⟨rfl, vs, SqL.of h2⟩, M, r, ss, rw, _, rw1, I, e1, fun v H1 k1 I1 hv => ?_⟩
        obtain ⟨p', vs', g1, g2, g3, _⟩ := I1.ow i ds hi
        rw [h1] at g1
        cases g1
        obtain ⟨b, us, rfl, b1, b2⟩ := vr_lst hv
        refine ⟨p, b, vs', us, rfl, rfl, g2, mk_le _ H1 _ _ b1, by rw [DRAll.length g3, DRAll.length b2]; exact sz_of hl, ?_⟩
        obtain ⟨J, G⟩ := I1.owned hi h1 (DRAll.append g3 b2)
        exact q _ _ ((Gr.ofR k1 I1).trans G) J
      next => cases e
    next => cases e
  next => cases e
/-- x.clear() -/
def sClr (i : Nat) : Sx := fun ss rw => match ss[i]? with
  | some (.own _) => some (.nx (ss.set i (.own [])) rw)
  | _ => none
theorem fs_clear {x : Str} {p0 p1 p2 p3 : Pos} (hv : PE X (.Name x p0) (tVar i)) (hbase : attributeBase (.Name x p0) "clear" X.env (eval (.Name x p0) X.env) = eval (.Name x p0) X.env := by rfl)
    (hline : (p1.endLine == p2.line) = true := by rfl) (hsw : swapsWith (.Call (.Attribute (.Name x p0) "clear" p1) [] [] p2) none p3.line X.env = pure false := by rfl) :
    FS X P fx W (.Expr (.Call (.Attribute (.Name x p0) "clear" p1) [] [] p2) p3) (sClr i) := by
  refine PS.imp (ps_expr (pe_bm0 PySem.F.plainAttrs_list PySem.F.slot_list_clear PySem.F.type_list_clear mt_clear hv hbase hline) hsw) ?_
  rintro D σ H ⟨M, r, ss, rw, o, I, e, q⟩
  unfold sClr at e
  split at e
  next ds hi =>
    cases e
    obtain ⟨p, vs, h1, h2, h3, h4, h5⟩ := I.ow i ds hi
    refine ⟨_, h1, .inl ⟨rfl, vs, SqL.of h2⟩, p, vs, rfl, rfl, h2, ?_⟩
    obtain ⟨J, G⟩ := I.owned (es := []) hi h1 .nil
    exact q _ _ G J
  next => cases e
/-- an own list is a list as any other from here on -/
def frz (i : Nat) (ss : List Sl) : List Sl := match ss[i]? with
  | some (.own ds) => ss.set i (.vl (.dat (.list ds)))
  | _ => ss
def sFrz (i : Nat) (m : Sx) : Sx := fun ss rw => m (frz i ss) rw
theorem ER.frz (I : ER P M r σ H ss rw) (i : Nat) : ER P M r σ H (frz i ss) rw ∧ Gr r σ H ss σ H (frz i ss) := by
  unfold FL.frz
  split
  next ds hi =>
    obtain ⟨p, vs, h1, hp, hd, hM, hr⟩ := I.ow i ds hi
    have hl : i < ss.length := (List.getElem?_eq_some_iff.mp hi).1
    have own_of : ∀ a, Own σ (ss.set i (.vl (.dat (.list ds)))) a → Own σ ss a ∧ a ≠ p := fun a => by
      rintro ⟨j, gs, e1, e2⟩
      by_cases hj : i = j
      · subst hj
        rw [List.getElem?_set_self hl] at e1
        cases e1
      · rw [List.getElem?_set_ne hj] at e1
        refine ⟨⟨j, gs, e1, e2⟩, fun z => ?_⟩
        subst z
        exact hj (I.inj i j a ds gs hi e1 h1 e2)
    have sub : Same (hdn (Msk M r σ ss) H) (hdn (Msk M r σ (ss.set i (.vl (.dat (.list ds))))) H) := mk_sub (msk_sub fun a z => (own_of a z).1)
    have np : ¬ Msk M r σ (ss.set i (.vl (.dat (.list ds)))) p := fun z => by
      rcases z with z | z | z
      · exact hM z
      · exact hr z
      · exact (own_of p z).2 rfl
    refine ⟨⟨by rw [List.length_set]; exact I.len, fun j y h => ?_, fun j gs h => ?_, fun j h => ?_, fun a h => ?_, I.m0, fun j k a gs fs e1 e2 e3 e4 => ?_⟩, ⟨fun b o e _ _ => e, fun a z => .inl (own_of a z).1, fun b z => z⟩⟩
    · by_cases hj : i = j
      · subst hj
        rw [List.getElem?_set_self hl] at h
        cases h
        exact ⟨_, h1, DR.lst (mk_at np hp) (drAll_mono sub _ _ hd)⟩
      · rw [List.getElem?_set_ne hj] at h
        obtain ⟨u, g1, g2⟩ := I.sl j y h
        exact ⟨u, g1, VR.mono sub g2⟩
    · by_cases hj : i = j
      · subst hj
        rw [List.getElem?_set_self hl] at h
        cases h
      · rw [List.getElem?_set_ne hj] at h
        obtain ⟨a, ws, g1, g2, g3, g4⟩ := I.ow j gs h
        exact ⟨a, ws, g1, g2, drAll_mono sub _ _ g3, g4⟩
    · by_cases hj : i = j
      · subst hj
        rw [List.getElem?_set_self hl] at h
        cases h
      · rw [List.getElem?_set_ne hj] at h
        exact I.rs j h
    · obtain ⟨g1, sa, g2, g3⟩ := I.rk a h
      exact ⟨g1, sa, g2, sub.seq g3⟩
    · have at_ : ∀ (l : Nat) (ts : List PyData), (ss.set i (.vl (.dat (.list ds))))[l]? = some (.own ts) → ss[l]? = some (.own ts) := fun l ts z => by
        by_cases hl' : i = l
        · subst hl'
          rw [List.getElem?_set_self hl] at z
          cases z
        · rw [List.getElem?_set_ne hl'] at z
          exact z
      exact I.inj j k a gs fs (at_ j gs e1) (at_ k fs e2) e3 e4
  next => exact ⟨I, Gr.refl⟩
theorem fs_frz (i : Nat) {st : Stmt} {a : Sx} (h : FS X P fx W st a) : FS X P fx W st (sFrz i a) := PS.imp h fun D σ H ⟨M, r, ss, rw, o, I, e, q⟩ =>
  ⟨M, r, FL.frz i ss, rw, o, (I.frz i).1, e, OuP.after (I.frz i).2 q⟩
theorem fss_frz (i : Nat) {st : List Stmt} {a : Sx} (h : FSs X P fx W st a) : FSs X P fx W st (sFrz i a) := PSs.imp h fun D σ H ⟨M, r, ss, rw, o, I, e, q⟩ =>
  ⟨M, r, FL.frz i ss, rw, o, (I.frz i).1, e, OuP.after (I.frz i).2 q⟩
/-- an item of an own list -/
def mIxO (i : Nat) (fb : Mx Vl) : Mx Vl := bnd fb fun y => fun ss rw => match ss[i]?, y with
  | some (.own ds), .dat (.int k) => (match atI ds k with
    | some d => some (.dat d, rw)
    | none => none)
  | _, _ => none
theorem fe_ixO {x : Str} {b : Expr} {fb : Mx Vl} {p0 pos : Pos} (hv : PE X (.Name x p0) (tVar i)) (hb : FE X P b fb) (hK : X.K = P.K := by rfl) (hs : PlainIx b := by exact (fun _ _ => rfl)) : FE X P (.Subscript (.Name x p0) b pos) (mIxO i fb) := by
  refine PE.imp (pe_ix ix_seq hv hb hs) ?_
  rw [hK]
  rintro σ H Q ⟨M, r, ss, rw, z, rw', I, e, q⟩
  obtain ⟨y, rw1, e1, e⟩ := bnd_some e
  split at e
  next ds k hi =>
    split at e
    next d ed =>
      cases e
      obtain ⟨p, vs, h1, h2, h3, h4, h5⟩ := I.ow i ds hi
      refine ⟨_, h1, M, r, ss, rw, _, _, I, e1, fun u H1 k1 I1 hu => ?_⟩
      obtain ⟨p', vs', g1, g2, g3, _⟩ := I1.ow i ds hi
      rw [h1] at g1
      cases g1
      rw [vr_int hu]
      obtain ⟨w, w1, w2⟩ := atI_all g3 ed
      exact .inl ⟨p, vs', k, w, rfl, rfl, SqL.of g2, w1, q w H1 k1 I1 w2⟩
    next => cases e
  next => cases e
/-- e in x, x an own list of flat ones -/
def mInO (i : Nat) (fa : Mx Vl) : Mx Vl := bnd fa fun y => fun ss rw => match ss[i]?, y with
  | some (.own ds), .dat d => (match dV d, dVs ds with
    | some v, some vs => some (.dat (.bool (inV v vs)), rw)
    | _, _ => none)
  | _, _ => none
theorem fe_inO {x : Str} {a : Expr} {fa : Mx Vl} {p0 pos : Pos} (ha : FE X P a fa) (hv : PE X (.Name x p0) (tVar i)) (hK : X.K = P.K := by rfl) (hm : behindInMarks .In (.Name x p0) = false := by with_unfolding_all rfl) : FE X P (.Compare a [.In] [.Name x p0] pos) (mInO i fa) := by
  refine PE.imp (pe_cmpR op_in_seq ha hv hm) ?_
  rw [hK]
  rintro σ H Q ⟨M, r, ss, rw, z, rw', I, e, q⟩
  obtain ⟨y, rw1, e1, e⟩ := bnd_some e
  refine ⟨M, r, ss, rw, _, _, I, e1, fun u H1 k1 I1 hu => ?_⟩
  split at e
  next ds d hi =>
    split at e
    next v vs ev es =>
      cases e
      obtain ⟨p, ws, h1, h2, h3, h4, h5⟩ := I1.ow i ds hi
      have hu : DR P.K (hdn (Msk M r σ ss) H1) u d := hu
      obtain ⟨rfl, g3⟩ := dvs_dr h3 es
      have := dv_dr hu ev
      subst this
      exact ⟨_, h1, p, ws, rfl, .inl (SqL.of h2), flat_dv hu ev, g3, q _ H1 k1 I1 (DR.bl _)⟩
    next => cases e
  next => cases e

/-! ### if, return, expressions -/
def sIf (c : Mx Bool) (a b : Sx) : Sx := fun ss rw => match c ss rw with
  | some (true, rw1) => a ss rw1
  | some (false, rw1) => b ss rw1
  | none => none
theorem fs_if {c : Expr} {sa sb : List Stmt} {mc : Mx Bool} {a b : Sx} {pos : Pos} (hc : FT X P c mc) (ha : FSs X P fx W sa a) (hb : FSs X P fx W sb b) : FS X P fx W (.If c sa sb pos) (sIf mc a b) := by
  refine PS.imp (ps_if hc ha hb) ?_
  rintro D σ H ⟨M, r, ss, rw, o, I, e, q⟩
  unfold sIf at e
  split at e
  next rw1 e1 => exact ⟨M, r, ss, rw, true, rw1, I, e1, fun H1 k1 I1 => L2.iteT ⟨M, r, ss, rw1, o, I1, e, OuP.after (Gr.ofR k1 I1) q⟩⟩
  next rw1 e1 => exact ⟨M, r, ss, rw, false, rw1, I, e1, fun H1 k1 I1 => L2.iteF ⟨M, r, ss, rw1, o, I1, e, OuP.after (Gr.ofR k1 I1) q⟩⟩
  next => cases e
def sRet (m : Mx Vl) : Sx := fun ss rw => match m ss rw with
  | some (x, rw1) => some (.rt x rw1)
  | none => none
theorem fs_ret {e : Expr} {pos : Pos} (he : FE X P e m) : FS X P fx W (.Return (some e) pos) (sRet m) := by
  refine PS.imp (ps_ret he) ?_
  rintro D σ H ⟨M, r, ss, rw, o, I, e, q⟩
  unfold sRet at e
  split at e
  next x rw1 e1 =>
    cases e
    exact ⟨M, r, ss, rw, x, rw1, I, e1, fun v H1 k1 I1 hv => q v H1 (Gr.ofR (ss := ss) k1 I1).keep (Gr.ofR (ss := ss) k1 I1).live I1.rowAt (VR.mono (mk_sub msk_out) hv)⟩
  next => cases e
theorem fs_retN {pos : Pos} : FS X P fx W (.Return none pos) (sRet (mC .none)) := by
  refine PS.imp ps_retN ?_
  rintro D σ H ⟨M, r, ss, rw, o, I, e, q⟩
  cases e
  exact q .non H (fun _ _ e _ _ => e) (fun _ z => z) I.rowAt DR.non
/-- a new list is handed back -/
def sRetL (m : Mx (List PyData)) : Sx := fun ss rw => match m ss rw with
  | some (x, rw1) => some (.rl x rw1)
  | none => none
theorem fs_retL {e : Expr} {ml : Mx (List PyData)} {pos : Pos} (he : FL X P e ml) : FS X P fx W (.Return (some e) pos) (sRetL ml) := by
  refine PS.imp (ps_ret he) ?_
  rintro D σ H ⟨M, r, ss, rw, o, I, e, q⟩
  unfold sRetL at e
  split at e
  next ds rw1 e1 =>
    cases e
    refine ⟨M, r, ss, rw, ds, rw1, I, e1, fun p vs H1 k1 I1 hp hp1 hv => ?_⟩
    have hM : ¬ M p := fun z => I.m0 p z hp
    have hr : r ≠ some p := fun z => (I1.rk p z).1 (.inr rfl)
    refine q p vs H1 (Gr.ofR (ss := ss) k1 I1).keep (Gr.ofR (ss := ss) k1 I1).live I1.unhide.rowAt (.inr hp) hM hr hp1 (drAll_mono (mk_sub fun a z => ?_) _ _ hv)
    rcases z with (z | z) | z
    · exact .inl (.inl z)
    · exact .inr (.inl z)
    · exact .inl (.inr z)
  next => cases e
/-- an own list is handed back -/
def sRetO (i : Nat) : Sx := fun ss rw => match ss[i]? with
  | some (.own ds) => some (.rl ds rw)
  | _ => none
theorem fs_retO {x : Str} {p0 pos : Pos} (hv : PE X (.Name x p0) (tVar i)) : FS X P fx W (.Return (some (.Name x p0)) pos) (sRetO i) := by
  refine PS.imp (ps_ret hv) ?_
  rintro D σ H ⟨M, r, ss, rw, o, I, e, q⟩
  unfold sRetO at e
  split at e
  next ds hi =>
    cases e
    obtain ⟨p, vs, h1, h2, h3, h4, h5⟩ := I.ow i ds hi
    refine ⟨_, h1, q p vs H (fun _ _ e _ _ => e) (fun _ z => z) I.rowAt (.inl ⟨i, ds, hi, h1⟩) h4 h5 h2 (drAll_mono (mk_sub fun a z => ?_) _ _ h3)⟩
    rcases z with (z | z) | z
    · exact .inl z
    · exact .inr (.inl z)
    · subst z
      exact .inr (.inr ⟨i, ds, hi, h1⟩)
  next => cases e
def sDrop (m : Mx Vl) : Sx := fun ss rw => match m ss rw with
  | some (_, rw1) => some (.nx ss rw1)
  | none => none
theorem fs_expr {e : Expr} {pos : Pos} (he : FE X P e m) (hs : swapsWith e none pos.line X.env = pure false := by rfl) : FS X P fx W (.Expr e pos) (sDrop m) := by
  refine PS.imp (ps_expr he hs) ?_
  rintro D σ H ⟨M, r, ss, rw, o, I, e, q⟩
  unfold sDrop at e
  split at e
  next x rw1 e1 =>
    cases e
    exact ⟨M, r, ss, rw, x, rw1, I, e1, fun v H1 k1 I1 hv => q σ H1 (Gr.ofR k1 I1) I1⟩
  next => cases e
/-- target = e, the target a tuple of names -/
def sTgt (g : PyData → List Sl → Option (List Sl)) (m : Mx Vl) : Sx := fun ss rw => match m ss rw with
  | some (.dat d, rw1) => (match g d ss with
    | some ss1 => some (.nx ss1 rw1)
    | none => none)
  | _ => none
theorem Gr.out0 {σ' : St} {ss' : List Sl} (w : ∀ a, Own σ' ss' a → Own σ ss a) : Gr r σ H ss σ' H ss' := ⟨fun _ _ e _ _ => e, fun a z => .inl (w a z), fun _ z => z⟩
theorem tS_tgt {t : TG} {g : PyData → List Sl → Option (List Sl)} {vs : List Nat} (hg : GOk P t g vs) : ∀ D σ H, tS P fx W (sTgt g m) D σ H → tAsg (tE P m) t D σ H := by
  rintro D σ H ⟨M, r, ss, rw, o, I, e, q⟩
  unfold sTgt at e
  split at e
  next d rw1 e1 =>
    split at e
    next ss1 e2 =>
      cases e
      exact ⟨M, r, ss, rw, _, rw1, I, e1, fun v H1 k1 I1 hv => hg M r σ H1 ss rw1 v d ss1 _ I1 hv e2 fun σ' o' I' w' => q σ' H1 ((Gr.ofR k1 I1).trans (Gr.out0 w')) I'⟩
    next => cases e
  next => cases e
theorem fs_tgt {tg e : Expr} {t : TG} {g : PyData → List Sl → Option (List Sl)} {vs : List Nat} {pos : Pos} (he : FE X P e m) (hgp : PG X tg t) (hg : GOk P t g vs) (hs : swapsWithSole [tg] e pos.line X.env = pure false := by rfl) (hw : swappedStores [tg] e X.env = pure none := by rfl)
    (h1 : (assignEach [tg] X.env).map (·.2) = [assign tg X.env] := by rfl) : FS X P fx W (.Assign [tg] e pos) (sTgt g m) := PS.imp (ps_asg he hgp hs hw h1) (tS_tgt hg)

/-! ### for, while -/
def forGo (g : PyData → List Sl → Option (List Sl)) (b : Sx) : List PyData → Sx
  | [], ss, rw => some (.nx ss rw)
  | x :: xs, ss, rw => match g x ss with
    | none => none
    | some ss1 => match b ss1 rw with
      | some (.nx ss2 rw2) => forGo g b xs ss2 rw2
      | some (.ct ss2 rw2) => forGo g b xs ss2 rw2
      | some (.bk ss2 rw2) => some (.nx ss2 rw2)
      | o => o
def sFor (mi : Mx (List PyData)) (g : PyData → List Sl → Option (List Sl)) (b : Sx) : Sx := fun ss rw => match mi ss rw with
  | some (xs, rw1) => forGo g b xs ss rw1
  | none => none
theorem tS_for {mi : Mx (List PyData)} {t : TG} {g : PyData → List Sl → Option (List Sl)} {b : Sx} {vs : List Nat} (hg : GOk P t g vs) : ∀ D σ H, tS P fx W (sFor mi g b) D σ H → tFor (tI P mi) t (tS P fx W b) D σ H := by
  rintro D σ H ⟨M, r, ss, rw, o, I, e, q⟩
  unfold sFor at e
  split at e
  next xs rw1 e1 =>
    refine ⟨M, r, ss, rw, xs, rw1, I, e1, fun J H1 k1 I1 wk => ?_⟩
    have q1 := OuP.after (Gr.ofR (ss := ss) k1 I1) q
    -- how the data ahead is seen later
    have seen : ∀ {σ2 : St} {H2 : Hp} {ss2 : List Sl} {rw2 : Ro}, Gr r σ H1 ss σ2 H2 ss2 → ER P M r σ2 H2 ss2 rw2 → Same (hdn (Msk M r σ ss) H1) (hdn (Msk M r σ2 ss2) H2) := fun {σ2 H2 ss2 rw2} g I2 => mk_same fun b o n h => by
      have nr : r ≠ some b := fun z => n (.inr (.inl z))
      have no : ¬ Own σ ss b := fun z => n (.inr (.inr z))
      refine ⟨fun z => ?_, g.keep b o h nr no⟩
      rcases z with z | z | z
      · exact n (.inl z)
      · exact n (.inr (.inl z))
      · rcases g.own b z with z | z
        · exact no z
        · rw [z] at h; cases h
    let Pv : Nat → St → Hp → Prop := fun i σ2 H2 => ∃ ss2 rw2, Gr r σ H1 ss σ2 H2 ss2 ∧ ER P M r σ2 H2 ss2 rw2 ∧ forGo g b (xs.drop i) ss2 rw2 = some o
    have pg : ∀ {i : Nat} {σ2 : St} {H2 : Hp}, Pv i σ2 H2 → ∃ S1, Same (hdn (Msk M r σ ss) H1) (hdn S1 H2) ∧ ∀ a, S1 a → H2 a ≠ none := fun {i σ2 H2} ⟨ss2, rw2, g2, I2, _⟩ => ⟨_, seen g2 I2, I2.alloc⟩
    have Wk : Walk J xs.length (fun H2 => ∃ S1, Same (hdn (Msk M r σ ss) H1) (hdn S1 H2) ∧ ∀ a, S1 a → H2 a ≠ none) (fun i H2 x H3 => Same H2 H3 ∧ ∃ d, xs[i]? = some d ∧ ∀ S1, Same (hdn (Msk M r σ ss) H1) (hdn S1 H2) → (∀ a, S1 a → H2 a ≠ none) → DR P.K (hdn S1 H3) x d) := by
      refine ⟨fun i H2 hi ⟨S1, h1, h2⟩ => ((wk S1 H2 h1 h2).1 i hi).1, fun H2 ⟨S1, h1, h2⟩ => (wk S1 H2 h1 h2).2, fun i H2 x H3 hi ⟨S1, h1, h2⟩ y => ?_⟩
      obtain ⟨s, d, g1, g2⟩ := ((wk S1 H2 h1 h2).1 i hi).2 x H3 y
      refine ⟨s, d, g1, fun S2 s2 a2 => ?_⟩
      obtain ⟨_, d', g1', g2'⟩ := ((wk S2 H2 s2 a2).1 i hi).2 x H3 y
      rw [g1] at g1'
      cases g1'
      exact g2'
    refine for_it Wk Pv ⟨ss, rw1, Gr.refl, I1, e⟩ (fun i σ2 H2 _ p => pg p) ?_ ?_
    · rintro i x σ2 H2 H3 hi ⟨ss2, rw2, g2, I2, e2⟩ ⟨s3, d, hd, hx⟩
      have hx' := hx _ (seen g2 I2) I2.alloc
      have I3 := I2.grow s3
      have g3 : Gr r σ2 H2 ss2 σ2 H3 ss2 := Gr.ofR (KeepR.of s3) I3
      rw [List.drop_eq_getElem_cons hi] at e2
      have ed : xs[i] = d := by
        rw [List.getElem?_eq_getElem hi] at hd
        exact Option.some.inj hd
      rw [ed] at e2
      unfold forGo at e2
      split at e2
      next => cases e2
      next ss3 h3 =>
        refine hg M r σ2 H3 ss2 rw2 x d ss3 _ I3 hx' h3 fun σ3 o3 I4 w3 => ?_
        have g4 : Gr r σ H1 ss σ3 H3 ss3 := (g2.trans g3).trans (Gr.out0 w3)
        split at e2
        next ss5 rw5 h5 => exact ⟨M, r, ss3, rw2, _, I4, h5, fun σ5 H5 g5 I5 => ⟨ss5, rw5, g4.trans g5, I5, e2⟩⟩
        next ss5 rw5 h5 => exact ⟨M, r, ss3, rw2, _, I4, h5, fun σ5 H5 g5 I5 => ⟨ss5, rw5, g4.trans g5, I5, e2⟩⟩
        next ss5 rw5 h5 =>
          cases e2
          exact ⟨M, r, ss3, rw2, _, I4, h5, fun σ5 H5 g5 I5 => q1 σ5 H5 (g4.trans g5) I5⟩
        next n1 n2 n3 =>
          refine ⟨M, r, ss3, rw2, o, I4, e2, ?_⟩
          have q4 := OuP.after g4 q1
          cases o with
          | nx a b => exact absurd e2 (n1 a b)
          | ct a b => exact absurd e2 (n2 a b)
          | bk a b => exact absurd e2 (n3 a b)
          | rt x c => exact q4
          | rl x c => exact q4
          | er x a b => exact q4
    · rintro σ2 H2 ⟨ss2, rw2, g2, I2, e2⟩
      rw [List.drop_length] at e2
      unfold forGo at e2
      cases e2
      exact q1 σ2 H2 g2 I2
  next => cases e
theorem fs_for {tg iter : Expr} {body : List Stmt} {mi : Mx (List PyData)} {t : TG} {g : PyData → List Sl → Option (List Sl)} {b : Sx} {vs : List Nat} {pos : Pos} (hi : FI X P tg iter mi) (hgp : PG X tg t) (hg : GOk P t g vs) (hb : FSs X P fx W body b)
    (hp : PassesOwn (model X.prog X.w) X.A X.env X.xe) (hc : X.calm = true := by rfl) (hs : ∀ x, foldedSetIterable iter X.env x = pure x := by intro _; rfl) : FS X P fx W (.For tg iter body [] pos) (sFor mi g b) :=
  PS.imp (ps_for hp hc hi hgp hb hs) (tS_for hg)
end
end FL
/-! Calls and defs. -/
namespace FL
open PySem L2

/-! ### what a def promises, by its function of data -/
def Live (S : Addr → Prop) (H : Hp) : Prop := ∀ a, S a → H a ≠ none
def spP (P : Pm) (F : List Vl → Option Vl) : Sp := fun vs H Q _ => ∃ S xs x, Live S H ∧ VRs P (hdn S H) vs xs ∧ F xs = some x ∧ ∀ v H', Same H H' → VR P (hdn S H') v x → Q v H'
/-- .. a new list -/
def spL (P : Pm) (F : List Vl → Option (List PyData)) : Sp := fun vs H Q _ => ∃ S xs ds, Live S H ∧ VRs P (hdn S H) vs xs ∧ F xs = some ds ∧
  ∀ p us H', Same H H' → H p = none → H' p = some (.lst us) → DRAll P.K (hdn (fun a => S a ∨ a = p) H') us ds → Q (.ref p) H'
/-- .. with the row ahead -/
def spR (P : Pm) (F : List Vl → Ro → Option (Vl × Ro)) : Sp := fun vs H Q _ => ∃ M a us xs rw x rw', vs = .ref a :: us ∧ ¬ M a ∧ Live M H ∧ RowAt P M (some a) H rw ∧ VRs P (hdn (fun b => M b ∨ some a = some b) H) us xs ∧ F xs rw = some (x, rw') ∧
  ∀ v H', KeepR (some a) H H' → RowAt P M (some a) H' rw' → VR P (hdn (fun b => M b ∨ some a = some b) H') v x → Q v H'
/-- .. that may raise -/
def spX (P : Pm) (fx : Nat → Addr) (F : List Vl → Option Res) : Sp := fun vs H Q E => ∃ S xs x, Live S H ∧ VRs P (hdn S H) vs xs ∧ F xs = some x ∧ (match x with
  | .ok y => ∀ v H', Same H H' → VR P (hdn S H') v y → Q v H'
  | .er ex => ∀ cls d H', Same H H' → ExR P fx ex cls d H' → E cls d H')

def slots (n : Nat) (xs : List Vl) : List Sl := xs.map Sl.vl ++ List.replicate (n - xs.length) .no
def slotsR (n : Nat) (xs : List Vl) : List Sl := .row :: (xs.map Sl.vl ++ List.replicate (n - 1 - xs.length) .no)
def bodyP (n k : Nat) (m : Sx) (xs : List Vl) : Option Vl := if xs.length = k then (match m (slots n xs) (0, 0) with
    | some (.rt x _) => some x
    | some (.nx _ _) => some (.dat .none)
    | some (.rl ds _) => some (.dat (.list ds))
    | _ => none)
  else none
def bodyL (n k : Nat) (m : Sx) (xs : List Vl) : Option (List PyData) := if xs.length = k then (match m (slots n xs) (0, 0) with
    | some (.rl ds _) => some ds
    | _ => none)
  else none
/-- k: the parameters behind the row -/
def bodyR (n k : Nat) (m : Sx) (xs : List Vl) (rw : Ro) : Option (Vl × Ro) := if xs.length = k then (match m (slotsR n xs) rw with
    | some (.rt x rw') => some (x, rw')
    | some (.nx _ rw') => some (.dat .none, rw')
    | some (.rl ds rw') => some (.dat (.list ds), rw')
    | _ => none)
  else none
def bodyX (n k : Nat) (m : Sx) (xs : List Vl) : Option Res := if xs.length = k then (match m (slots n xs) (0, 0) with
    | some (.rt x _) => some (.ok x)
    | some (.nx _ _) => some (.ok (.dat .none))
    | some (.rl ds _) => some (.ok (.dat (.list ds)))
    | some (.er e _ _) => some (.er e)
    | _ => none)
  else none
theorem VRs.get {P : Pm} {H : Hp} : ∀ {xs : List Vl} {vs : List V} {i : Nat} {x : Vl}, VRs P H vs xs → xs[i]? = some x → ∃ v, vs[i]? = some v ∧ VR P H v x
  | [], _, i, x, h, e => by simp at e
  | d :: ds, _, 0, x, h, e => by
    cases h with
    | cons h1 h2 =>
      have e' : d = x := by simpa using e
      subst e'
      exact ⟨_, rfl, h1⟩
  | d :: ds, _, i + 1, x, h, e => by
    cases h with
    | cons h1 h2 =>
      obtain ⟨v, e1, e2⟩ := VRs.get (i := i) h2 (by simpa using e)
      exact ⟨v, by simpa using e1, e2⟩
section
variable {P : Pm} {M S : Addr → Prop} {H : Hp} {N : List Str} {vs : List V} {xs : List Vl}
theorem slots_at {n i : Nat} {s : Sl} (h : (slots n xs)[i]? = some s) : (∃ x, xs[i]? = some x ∧ s = .vl x) ∨ s = .no := by
  unfold slots at h
  by_cases hi : i < (xs.map Sl.vl).length
  · rw [List.getElem?_append_left hi, List.getElem?_map] at h
    cases e : xs[i]? with
    | none => rw [e] at h; cases h
    | some x => rw [e] at h; cases h; exact .inl ⟨x, rfl, rfl⟩
  · rw [List.getElem?_append_right (by omega)] at h
    have := List.mem_of_getElem? h
    rw [List.mem_replicate] at this
    exact .inr this.2
theorem start_at (h : VRs P H vs xs) {i : Nat} {x : Vl} (e : xs[i]? = some x) : ∃ v, (L2.start N vs)[i]? = some (some v) ∧ VR P H v x := by
  obtain ⟨v, e1, e2⟩ := VRs.get h e
  refine ⟨v, ?_, e2⟩
  unfold L2.start
  have hi : i < (vs.map some).length := by
    rw [List.length_map]
    exact (List.getElem?_eq_some_iff.mp e1).1
  rw [List.getElem?_append_left hi, List.getElem?_map, e1]
  rfl
theorem no_own_slots {σ : St} {n : Nat} {a : Addr} (h : Own σ (slots n xs) a) : False := by
  obtain ⟨i, ds, h1, _⟩ := h
  rcases slots_at h1 with ⟨x, _, z⟩ | z <;> cases z
theorem er_start (hl : xs.length ≤ N.length) (hS : Live S H) (h : VRs P (hdn S H) vs xs) : ER P S none (L2.start N vs) H (slots N.length xs) (0, 0) := by
  have sub : Same (hdn S H) (hdn (Msk S none (L2.start N vs) (slots N.length xs)) H) := mk_sub fun a z => by
    rcases z with z | z | z
    · exact z
    · cases z
    · exact (no_own_slots z).elim
  have hlen := h.length
  refine ⟨?_, fun i x e => ?_, fun i ds e => ?_, fun i e => ?_, fun a e => (nomatch e), hS, fun i j a ds es e => ?_⟩
  · unfold L2.start slots
    simp only [List.length_append, List.length_map, List.length_replicate]
    omega
  · rcases slots_at e with ⟨y, e1, z⟩ | z
    · cases z
      obtain ⟨v, g1, g2⟩ := start_at (N := N) h e1
      exact ⟨v, g1, VR.mono sub g2⟩
    · cases z
  · rcases slots_at e with ⟨x, _, z⟩ | z <;> cases z
  · rcases slots_at e with ⟨x, _, z⟩ | z <;> cases z
  · rcases slots_at e with ⟨x, _, z⟩ | z <;> cases z
theorem slotsR_at {n i : Nat} {s : Sl} (h : (slotsR n xs)[i]? = some s) : (i = 0 ∧ s = .row) ∨ (∃ j x, i = j + 1 ∧ xs[j]? = some x ∧ s = .vl x) ∨ s = .no := by
  cases i with
  | zero =>
    unfold slotsR at h
    cases h
    exact .inl ⟨rfl, rfl⟩
  | succ j =>
    unfold slotsR at h
    rw [List.getElem?_cons_succ] at h
    rcases slots_at (n := n - 1) (i := j) h with ⟨x, e, z⟩ | z
    · exact .inr (.inl ⟨j, x, rfl, e, z⟩)
    · exact .inr (.inr z)
theorem no_own_slotsR {σ : St} {n : Nat} {a : Addr} (h : Own σ (slotsR n xs) a) : False := by
  obtain ⟨i, ds, h1, _⟩ := h
  rcases slotsR_at h1 with ⟨_, z⟩ | ⟨_, _, _, _, z⟩ | z <;> cases z
theorem er_startR {a : Addr} {rw : Ro} (hl : xs.length + 1 ≤ N.length) (hM : ¬ M a) (hS : Live M H) (hr : RowAt P M (some a) H rw) (h : VRs P (hdn (fun b => M b ∨ some a = some b) H) vs xs) : ER P M (some a) (L2.start N (.ref a :: vs)) H (slotsR N.length xs) rw := by
  have sub : Same (hdn (fun b => M b ∨ some a = some b) H) (hdn (Msk M (some a) (L2.start N (.ref a :: vs)) (slotsR N.length xs)) H) := mk_sub fun b z => by
    rcases z with z | z | z
    · exact .inl z
    · exact .inr z
    · exact (no_own_slotsR z).elim
  have hlen := h.length
  have st : ∀ {j : Nat} {v : V}, vs[j]? = some v → (L2.start N (.ref a :: vs))[j + 1]? = some (some v) := fun {j v} e => by
    unfold L2.start
    rw [List.map_cons, List.cons_append, List.getElem?_cons_succ]
    have hi : j < (vs.map some).length := by
      rw [List.length_map]
      exact (List.getElem?_eq_some_iff.mp e).1
    rw [List.getElem?_append_left hi, List.getElem?_map, e]
    rfl
  refine ⟨?_, fun i x e => ?_, fun i ds e => ?_, fun i e => ?_, fun b e => ?_, hS, fun i j a ds es e => ?_⟩
  · unfold L2.start slotsR
    simp only [List.length_append, List.length_map, List.length_replicate, List.length_cons]
    omega
  · rcases slotsR_at e with ⟨_, z⟩ | ⟨j, y, rfl, e1, z⟩ | z
    · cases z
    · cases z
      obtain ⟨v, g1, g2⟩ := VRs.get h e1
      exact ⟨v, st g1, VR.mono sub g2⟩
    · cases z
  · rcases slotsR_at e with ⟨_, z⟩ | ⟨_, _, _, _, z⟩ | z <;> cases z
  · rcases slotsR_at e with ⟨z, _⟩ | ⟨_, _, _, _, z⟩ | z
    · subst z
      exact ⟨a, rfl, rfl⟩
    · cases z
    · cases z
  · cases e
    obtain ⟨sa, h1, h2⟩ := hr a rfl
    exact ⟨hM, sa, h1, sub.seq h2⟩
  · rcases slotsR_at e with ⟨_, z⟩ | ⟨_, _, _, _, z⟩ | z <;> cases z
end

/-! ### a def, by its body -/
abbrev W0 : WX := fun _ _ _ _ => False
theorem same_of {ss : List Sl} {σ : St} {H H' : Hp} (h : KeepO none σ H ss H') (no : ∀ a, ¬ Own σ ss a) : Same H H' := fun b o e => h b o e (by simp) (no b)
theorem hdn_none {S : Addr → Prop} {H : Hp} : Same (hdn (fun a => S a ∨ (none : Option Addr) = some a) H) (hdn S H) := mk_sub fun _ z => .inl z
section
variable {Pg : Program} {w : World} {K : PySem.W.Frag} {mg : Str → Option Value} {base : Heap} {P : Pm} {fx : Nat → Addr} {x qual : Str} {st : Stmt} {f : Addr} {fd : FuncData} {N ps : List Str} {k : Nat} {m : Sx}
theorem fn_P (F : Fun K x qual st f fd) (S : FnScope N ps (defScope st)) (hk : ps.length ≤ N.length)
    (hb : ∀ (cdv : Value) (A : Around) (outer : List Env) (s : Shared) (H : Hp) (E : XK), Room k (A.deeper (PyProof.Rows.envOfC qual (defScope st) s.heap.objs.size f cdv)) → FSs (cxOf CX0 Pg w K mg base N qual (defScope st) f cdv A outer s H E).nox P fx W0 (defBody st) m) :
    FnOk Pg w K mg base CX0 (k + 1) f fd ps (spP P (bodyP N.length ps.length m)) := by
  refine F.ok S (fun vs H Q E h => ?_) (fun cdv A outer s H vs Q E hr h => ⟨_, hb cdv A outer s H E hr, ?_⟩)
  · obtain ⟨S0, xs, y, _, h2, h3, _⟩ := h
    rw [h2.length]
    unfold bodyP at h3
    split at h3
    next e => exact e
    next => cases h3
  · obtain ⟨S0, xs, y, h1, h2, h3, q⟩ := h
    unfold bodyP at h3
    split at h3
    next hl =>
      have I := er_start (N := N) (by omega) h1 h2
      have no : ∀ a, ¬ Own (L2.start N vs) (slots N.length xs) a := fun a z => no_own_slots z
      split at h3
      next z rw' e =>
        cases h3
        exact ⟨S0, none, _, _, _, I, e, fun v H' k' _ _ hv => q v H' (same_of k' no) (VR.mono hdn_none hv)⟩
      next ss' rw' e =>
        cases h3
        exact ⟨S0, none, _, _, _, I, e, fun σ' H' g I' => q _ H' (same_of g.keep no) DR.non⟩
      next ds rw' e =>
        cases h3
        refine ⟨S0, none, _, _, _, I, e, fun p us H' k' _ _ _ hm _ hp hv => q _ H' (same_of k' no) (DR.lst (mk_at hm hp) (drAll_mono (mk_sub fun a z => ?_) _ _ hv))⟩
        exact .inl (.inl z)
      next => cases h3
    next => cases h3
theorem fn_L (F : Fun K x qual st f fd) (S : FnScope N ps (defScope st)) (hk : ps.length ≤ N.length)
    (hb : ∀ (cdv : Value) (A : Around) (outer : List Env) (s : Shared) (H : Hp) (E : XK), Room k (A.deeper (PyProof.Rows.envOfC qual (defScope st) s.heap.objs.size f cdv)) → FSs (cxOf CX0 Pg w K mg base N qual (defScope st) f cdv A outer s H E).nox P fx W0 (defBody st) m) :
    FnOk Pg w K mg base CX0 (k + 1) f fd ps (spL P (bodyL N.length ps.length m)) := by
  refine F.ok S (fun vs H Q E h => ?_) (fun cdv A outer s H vs Q E hr h => ⟨_, hb cdv A outer s H E hr, ?_⟩)
  · obtain ⟨S0, xs, y, _, h2, h3, _⟩ := h
    rw [h2.length]
    unfold bodyL at h3
    split at h3
    next e => exact e
    next => cases h3
  · obtain ⟨S0, xs, y, h1, h2, h3, q⟩ := h
    unfold bodyL at h3
    split at h3
    next hl =>
      have I := er_start (N := N) (by omega) h1 h2
      have no : ∀ a, ¬ Own (L2.start N vs) (slots N.length xs) a := fun a z => no_own_slots z
      split at h3
      next ds rw' e =>
        cases h3
        refine ⟨S0, none, _, _, _, I, e, fun p us H' k' _ _ ho hm _ hp hv => q p us H' (same_of k' no) (ho.resolve_left (no p)) hp (drAll_mono (mk_sub fun a z => ?_) _ _ hv)⟩
        rcases z with z | z
        · exact .inl (.inl z)
        · exact .inr z
      next => cases h3
    next => cases h3
theorem fn_R (F : Fun K x qual st f fd) (S : FnScope N ps (defScope st)) (hk : ps.length ≤ N.length) (h0 : 0 < ps.length)
    (hb : ∀ (cdv : Value) (A : Around) (outer : List Env) (s : Shared) (H : Hp) (E : XK), Room k (A.deeper (PyProof.Rows.envOfC qual (defScope st) s.heap.objs.size f cdv)) → FSs (cxOf CX0 Pg w K mg base N qual (defScope st) f cdv A outer s H E).nox P fx W0 (defBody st) m) :
    FnOk Pg w K mg base CX0 (k + 1) f fd ps (spR P (bodyR N.length (ps.length - 1) m)) := by
  refine F.ok S (fun vs H Q E h => ?_) (fun cdv A outer s H vs Q E hr h => ⟨_, hb cdv A outer s H E hr, ?_⟩)
  · obtain ⟨M, a, us, xs, rw, y, rw', rfl, _, _, _, h2, h3, _⟩ := h
    rw [List.length_cons, h2.length]
    unfold bodyR at h3
    split at h3
    next e => omega
    next => cases h3
  · obtain ⟨M, a, us, xs, rw, y, rw', rfl, hM, hL, hR, h2, h3, q⟩ := h
    unfold bodyR at h3
    split at h3
    next hl =>
      have I := er_startR (N := N) (by omega) hM hL hR h2
      have no : ∀ a', ¬ Own (L2.start N (.ref a :: us)) (slotsR N.length xs) a' := fun a z => no_own_slotsR z
      have kr : ∀ {H' : Hp}, KeepO (some a) (L2.start N (.ref a :: us)) H (slotsR N.length xs) H' → KeepR (some a) H H' := fun k' b o e n => k' b o e n (no b)
      split at h3
      next z rw1 e =>
        cases h3
        exact ⟨M, some a, _, _, _, I, e, fun v H' k' _ ra hv => q v H' (kr k') ra hv⟩
      next ss' rw1 e =>
        cases h3
        exact ⟨M, some a, _, _, _, I, e, fun σ' H' g I' => q _ H' (kr g.keep) I'.rowAt DR.non⟩
      next ds rw1 e =>
        cases h3
        refine ⟨M, some a, _, _, _, I, e, fun p us H' k' _ ra _ hm hr' hp hv => q _ H' (kr k') ra (DR.lst (mk_at (fun z => z.elim hm hr') hp) (drAll_mono (mk_sub fun a z => .inl z) _ _ hv))⟩
      next => cases h3
    next => cases h3
theorem fn_X (F : Fun K x qual st f fd) (S : FnScope N ps (defScope st)) (hk : ps.length ≤ N.length)
    (hb : ∀ (cdv : Value) (A : Around) (outer : List Env) (s : Shared) (H : Hp) (E : XK), Room k (A.deeper (PyProof.Rows.envOfC qual (defScope st) s.heap.objs.size f cdv)) →
      FSs (cxOf (L2.CX Pg w) Pg w K mg base N qual (defScope st) f cdv A outer s H E) P fx (fun cls d _ H => E cls d H) (defBody st) m) :
    FnOk Pg w K mg base (L2.CX Pg w) (k + 1) f fd ps (spX P fx (bodyX N.length ps.length m)) := by
  refine F.okX S (fun vs H Q E h => ?_) (fun cdv A outer s H vs Q E hr h => ⟨_, hb cdv A outer s H E hr, ?_⟩)
  · obtain ⟨S0, xs, y, _, h2, h3, _⟩ := h
    rw [h2.length]
    unfold bodyX at h3
    split at h3
    next e => exact e
    next => cases h3
  · obtain ⟨S0, xs, y, h1, h2, h3, q⟩ := h
    unfold bodyX at h3
    split at h3
    next hl =>
      have I := er_start (N := N) (by omega) h1 h2
      have no : ∀ a, ¬ Own (L2.start N vs) (slots N.length xs) a := fun a z => no_own_slots z
      split at h3
      next z rw' e =>
        cases h3
        exact ⟨S0, none, _, _, _, I, e, fun v H' k' _ _ hv => q v H' (same_of k' no) (VR.mono hdn_none hv)⟩
      next ss' rw' e =>
        cases h3
        exact ⟨S0, none, _, _, _, I, e, fun σ' H' g I' => q _ H' (same_of g.keep no) DR.non⟩
      next ds rw' e =>
        cases h3
        refine ⟨S0, none, _, _, _, I, e, fun p us H' k' _ _ _ hm _ hp hv => q _ H' (same_of k' no) (DR.lst (mk_at hm hp) (drAll_mono (mk_sub fun a z => ?_) _ _ hv))⟩
        exact .inl (.inl z)
      next ex ss' rw' e =>
        cases h3
        exact ⟨S0, none, _, _, _, I, e, fun σ' cls d H' g I' hx => q cls d H' (same_of g.keep no) hx⟩
      next => cases h3
    next => cases h3
end

/-! ### calls -/
section
variable {P : Pm} {X : Cx} {fx : Nat → Addr} {W : WX} {k : Nat} {f : Addr} {fd : FuncData} {ps : List Str} {x : Str} {p pos : Pos} {e : Expr} {es : List Expr} {ma : Mx (List Vl)}
def mCall (F : List Vl → Option Vl) (ma : Mx (List Vl)) : Mx Vl := bnd ma fun xs => opt (F xs)
theorem live_msk {M : Addr → Prop} {r : Option Addr} {σ : St} {H : Hp} {ss : List Sl} {rw : Ro} (I : ER P M r σ H ss rw) : Live (Msk M r σ ss) H := I.alloc
theorem fe_call {F : List Vl → Option Vl} (G : FnOk X.prog X.w X.K X.mg X.base CX0 k f fd ps (spP P F)) (hr : Room k X.A) (hm : X.mg x = some (.ref f)) (hk : PySem.W.keepIn X.K (.ref f) = true) (hb : Binds X.K fd ps []) (ha : FA X P (e :: es) ma)
    (hg : Gl X x := by rfl) (hdb : (x == ("__debug__" : Str)) = false := by decide) (he : starEach (e :: es) X.env = (false, eval e X.env) :: starEach es X.env := by rfl) (hpl : (backTo pos (starEach es X.env)).any (·.1) = false := by rfl) :
    FE X P (.Call (.Name x p) (e :: es) [] pos) (mCall F ma) := by
  refine PE.imp (pe_call G hr hg hm hk hb .nil pass0 ha hdb he hpl) ?_
  rintro σ H Q ⟨M, r, ss, rw, z, rw', I, e, q⟩
  obtain ⟨xs, rw1, e1, e⟩ := bnd_some e
  obtain ⟨e2, rfl⟩ := opt_some e
  refine ⟨M, r, ss, rw, xs, _, I, e1, fun vs H1 k1 I1 hv => ?_⟩
  show spP P F (vs ++ []) H1 Q E0
  rw [List.append_nil]
  exact ⟨_, xs, z, I1.alloc, hv, e2, fun v H2 s2 h2 => q v H2 (k1.trans (KeepR.of s2)) (I1.grow s2) h2⟩
def mCallL (F : List Vl → Option (List PyData)) (ma : Mx (List Vl)) : Mx (List PyData) := bnd ma fun xs => opt (F xs)
theorem back_none {r : Option Addr} {M : Addr → Prop} {σ : St} {H H1 : Hp} {ss : List Sl} {rw1 : Ro} (k : KeepR r H H1) (I1 : ER P M r σ H1 ss rw1) {q : Addr} (h : H1 q = none) : H q = none := by
  cases z : H q with
  | none => rfl
  | some o =>
    by_cases hr : r = some q
    · obtain ⟨_, sa, e, _⟩ := I1.rk q hr
      rw [h] at e; cases e
    · rw [k q o z hr] at h; cases h
theorem fl_call {F : List Vl → Option (List PyData)} (G : FnOk X.prog X.w X.K X.mg X.base CX0 k f fd ps (spL P F)) (hr : Room k X.A) (hm : X.mg x = some (.ref f)) (hk : PySem.W.keepIn X.K (.ref f) = true) (hb : Binds X.K fd ps []) (ha : FA X P (e :: es) ma)
    (hg : Gl X x := by rfl) (hdb : (x == ("__debug__" : Str)) = false := by decide) (he : starEach (e :: es) X.env = (false, eval e X.env) :: starEach es X.env := by rfl) (hpl : (backTo pos (starEach es X.env)).any (·.1) = false := by rfl) :
    FL X P (.Call (.Name x p) (e :: es) [] pos) (mCallL F ma) := by
  refine PE.imp (pe_call G hr hg hm hk hb .nil pass0 ha hdb he hpl) ?_
  rintro σ H Q ⟨M, r, ss, rw, z, rw', I, e, q⟩
  obtain ⟨xs, rw1, e1, e⟩ := bnd_some e
  obtain ⟨e2, rfl⟩ := opt_some e
  refine ⟨M, r, ss, rw, xs, _, I, e1, fun vs H1 k1 I1 hv => ?_⟩
  show spL P F (vs ++ []) H1 Q E0
  rw [List.append_nil]
  refine ⟨_, xs, z, I1.alloc, hv, e2, fun l us H2 s2 hl hl2 h2 => q l us H2 (k1.trans (KeepR.of s2)) (I1.hideS s2 hl (by rw [hl2]; simp)) (back_none k1 I1 hl) hl2 (drAll_mono (mk_sub fun a z => ?_) _ _ h2)⟩
  rcases z with (z | z) | z | z
  · exact .inl (.inl z)
  · exact .inr z
  · exact .inl (.inr (.inl z))
  · exact .inl (.inr (.inr z))
/-- a method without arguments, of a house: a new list -/
theorem fl_meth0 {F : List Vl → Option (List PyData)} {o : Expr} {fo : Mx Vl} {C : Addr} {mth : Str} {apos : Pos} {pl : Sem Bool} (G : FnOk X.prog X.w X.K X.mg X.base CX0 k f fd ps (spL P F)) (hr : Room k X.A) (c : Cls X.K C) (hm : Meth X.K C mth f) (hb : Binds X.K fd ps []) (ho : FE X P o fo)
    (hh : ∀ H y t s, P.hs H y t s → ∃ dx fs, H y = some (.ins C dx fs) ∧ fs.lookup mth = none)
    (ht : eval (.Call (.Attribute o mth apos) [] [] pos) X.env = (do
      let ov ← eval o X.env
      standAt apos.atName
      let (f, first) ← holding [ov] (getMethod ov mth pl)
      callWith pos f first (backTo pos (starEach [] X.env)) (backToKw pos (keywordEach [] X.env))) := by rfl) :
    FL X P (.Call (.Attribute o mth apos) [] [] pos) (mCallL F (bnd fo fun y => match y with
      | .hse t s => pur [.hse t s]
      | _ => opt none)) := by
  refine PE.imp (pe_meth0 ho c hm G hr hb .nil pass0 ht) ?_
  rintro σ H Q ⟨M, r, ss, rw, z, rw', I, e, q⟩
  obtain ⟨xs, rw1, e1, e⟩ := bnd_some e
  obtain ⟨e2, rfl⟩ := opt_some e
  obtain ⟨y, rw2, e3, e4⟩ := bnd_some e1
  refine ⟨M, r, ss, rw, y, _, I, e3, fun v H1 k1 I1 hv => ?_⟩
  split at e4
  next t s =>
    obtain ⟨rfl, rfl⟩ := pur_some e4
    obtain ⟨b, rfl, hb'⟩ := hv
    obtain ⟨dx, fs, h1, h2⟩ := hh _ _ _ _ (P.hmono (mk_le _ H1) hb')
    refine ⟨b, dx, fs, rfl, h1, h2, ?_⟩
    have hb0 : VR P (hdn (Msk M r σ ss) H1) (V.ref b) (.hse t s) := ⟨b, rfl, hb'⟩
    refine ⟨_, _, z, I1.alloc, .cons hb0 .nil, e2, fun l us H2 s2 hl hl2 h2 => q l us H2 (k1.trans (KeepR.of s2)) (I1.hideS s2 hl (by rw [hl2]; simp)) (back_none k1 I1 hl) hl2 (drAll_mono (mk_sub fun a z => ?_) _ _ h2)⟩
    rcases z with (z | z) | z | z
    · exact .inl (.inl z)
    · exact .inr z
    · exact .inl (.inr (.inl z))
    · exact .inl (.inr (.inr z))
  next => cases (opt_some e4).1
/-- f(row, e, ..): the row in slot i -/
def mCallR (i : Nat) (F : List Vl → Ro → Option (Vl × Ro)) (ma : Mx (List Vl)) : Mx Vl := fun ss rw => match ss[i]? with
  | some .row => (match ma ss rw with
    | some (xs, rw1) => F xs rw1
    | none => none)
  | _ => none
theorem fe_callR {F : List Vl → Ro → Option (Vl × Ro)} {i : Nat} {y : Str} {p0 : Pos} (G : FnOk X.prog X.w X.K X.mg X.base CX0 k f fd ps (spR P F)) (hr : Room k X.A) (hm : X.mg x = some (.ref f)) (hk : PySem.W.keepIn X.K (.ref f) = true) (hb : Binds X.K fd ps []) (h0 : PE X (.Name y p0) (tVar i)) (ha : FA X P es ma)
    (hg : Gl X x := by rfl) (hdb : (x == ("__debug__" : Str)) = false := by decide) (he : starEach (.Name y p0 :: es) X.env = (false, eval (.Name y p0) X.env) :: starEach es X.env := by rfl) (hpl : (backTo pos (starEach es X.env)).any (·.1) = false := by rfl) :
    FE X P (.Call (.Name x p) (.Name y p0 :: es) [] pos) (mCallR i F ma) := by
  refine PE.imp (pe_call G hr hg hm hk hb .nil pass0 (pa_cons h0 ha he) hdb he hpl) ?_
  rintro σ H Q ⟨M, r, ss, rw, z, rw', I, e, q⟩
  unfold mCallR at e
  split at e
  next hi =>
    split at e
    next xs rw1 e1 =>
      obtain ⟨a, rfl, hs⟩ := I.rs i hi
      refine ⟨_, hs, M, some a, ss, rw, xs, rw1, I, e1, fun vs H1 k1 I1 hv => ?_⟩
      show spR P F ((V.ref a :: vs) ++ []) H1 Q E0
      rw [List.append_nil]
      have hM : ¬ M a := (I1.rk a rfl).1
      -- the callee's mask: what is hidden, but for the row
      let M1 : Addr → Prop := fun b => M b ∨ Own σ ss b
      have eq1 : ∀ b, (M1 b ∨ some a = some b) ↔ Msk M (some a) σ ss b := fun b => by
        constructor
        · rintro ((z | z) | z)
          · exact .inl z
          · exact .inr (.inr z)
          · exact .inr (.inl z)
        · rintro (z | z | z)
          · exact .inl (.inl z)
          · exact .inr z
          · exact .inl (.inr z)
      have na : ¬ M1 a := fun z => by
        rcases z with z | z
        · exact hM z
        · obtain ⟨j, ds, g1, g2⟩ := z
          obtain ⟨a', _, g3, _, _, _, g4⟩ := I1.ow j ds g1
          rw [g2] at g3
          cases g3
          exact g4 rfl
      have hra : RowAt P M1 (some a) H1 rw1 := fun b hb => by
        obtain ⟨_, sa, g1, g2⟩ := I1.rk b hb
        exact ⟨sa, g1, (mk_sub fun c z => (eq1 c).mp z).seq g2⟩
      refine ⟨M1, a, vs, xs, rw1, z, rw', rfl, na, fun b z => I1.alloc b ((eq1 b).mp (.inl z)), hra, VRs.mono (mk_sub fun c z => (eq1 c).mp z) hv, e, fun v H2 k2 ra2 h2 => ?_⟩
      refine q v H2 (k1.trans k2) ?_ (VR.mono (mk_sub fun c z => (eq1 c).mpr z) h2)
      refine I1.back (fun b o e n _ => k2 b o e n) (k2.live I1) fun b hb => ?_
      obtain ⟨sa, g1, g2⟩ := ra2 b hb
      exact ⟨sa, g1, (mk_sub fun c z => (eq1 c).mpr z).seq g2⟩
    next => cases e
  next => cases e

/-! ### calls that may raise -/
def tEX (P : Pm) (fx : Nat → Addr) (W : WX) (m : Mx Res) : TE := fun σ H Q => ∃ M r ss rw x rw', ER P M r σ H ss rw ∧ m ss rw = some (x, rw') ∧ (match x with
  | .ok y => ∀ v H', KeepR r H H' → ER P M r σ H' ss rw' → VR P (hdn (Msk M r σ ss) H') v y → Q v H'
  | .er ex => ∀ cls d H', KeepR r H H' → ER P M r σ H' ss rw' → ExR P fx ex cls d H' → W cls d σ H')
def mCallX (F : List Vl → Option Res) (ma : Mx (List Vl)) : Mx Res := bnd ma fun xs => opt (F xs)
theorem fx_call {F : List Vl → Option Res} (G : FnOk X.prog X.w X.K X.mg X.base (L2.CX X.prog X.w) k f fd ps (spX P fx F)) (hr : Room k X.A) (hm : X.mg x = some (.ref f)) (hk : PySem.W.keepIn X.K (.ref f) = true) (hb : Binds X.K fd ps []) (tk : Takes X W) (ha : FA X P (e :: es) ma)
    (hg : Gl X x := by rfl) (hdb : (x == ("__debug__" : Str)) = false := by decide) (he : starEach (e :: es) X.env = (false, eval e X.env) :: starEach es X.env := by rfl) (hpl : (backTo pos (starEach es X.env)).any (·.1) = false := by rfl) :
    PE X (.Call (.Name x p) (e :: es) [] pos) (tEX P fx W (mCallX F ma)) := by
  refine PE.imp (pe_callS G hr hg hm hk hb (fun σ => passAt tk σ) ha hdb he hpl) ?_
  rintro σ H Q ⟨M, r, ss, rw, z, rw', I, e, q⟩
  obtain ⟨xs, rw1, e1, e⟩ := bnd_some e
  obtain ⟨e2, rfl⟩ := opt_some e
  refine ⟨M, r, ss, rw, xs, _, I, e1, fun vs H1 k1 I1 hv => ⟨_, xs, z, I1.alloc, hv, e2, ?_⟩⟩
  cases z with
  | ok y => exact fun v H2 s2 h2 => q v H2 (k1.trans (KeepR.of s2)) (I1.grow s2) h2
  | er ex => exact fun cls d H2 s2 h2 => q cls d H2 (k1.trans (KeepR.of s2)) (I1.grow s2) h2
/-- the same where it does not raise -/
def mOk (m : Mx Res) : Mx Vl := bnd m fun x => match x with
  | .ok y => pur y
  | .er _ => opt none
theorem fe_ok {e : Expr} {m : Mx Res} (h : PE X e (tEX P fx W m)) : FE X P e (mOk m) := by
  refine PE.imp h ?_
  rintro σ H Q ⟨M, r, ss, rw, z, rw', I, e, q⟩
  obtain ⟨x, rw1, e1, e⟩ := bnd_some e
  cases x with
  | ok y =>
    obtain ⟨rfl, rfl⟩ := pur_some e
    exact ⟨M, r, ss, rw, _, _, I, e1, q⟩
  | er ex => cases (opt_some e).1
def sDropX (m : Mx Res) : Sx := fun ss rw => match m ss rw with
  | some (.ok _, rw1) => some (.nx ss rw1)
  | some (.er ex, rw1) => some (.er ex ss rw1)
  | none => none
theorem fs_exprX {e : Expr} {m : Mx Res} {pos : Pos} (he : PE X e (tEX P fx W m)) (hs : swapsWith e none pos.line X.env = pure false := by rfl) : FS X P fx W (.Expr e pos) (sDropX m) := by
  refine PS.imp (ps_expr he hs) ?_
  rintro D σ H ⟨M, r, ss, rw, o, I, e, q⟩
  unfold sDropX at e
  split at e
  next x rw1 e1 =>
    cases e
    exact ⟨M, r, ss, rw, _, rw1, I, e1, fun v H1 k1 I1 hv => q σ H1 (Gr.ofR k1 I1) I1⟩
  next ex rw1 e1 =>
    cases e
    exact ⟨M, r, ss, rw, _, rw1, I, e1, fun cls d H1 k1 I1 hx => q σ cls d H1 (Gr.ofR k1 I1) I1 hx⟩
  next => cases e
def sRetX (m : Mx Res) : Sx := fun ss rw => match m ss rw with
  | some (.ok x, rw1) => some (.rt x rw1)
  | some (.er ex, rw1) => some (.er ex ss rw1)
  | none => none
theorem fs_retX {e : Expr} {m : Mx Res} {pos : Pos} (he : PE X e (tEX P fx W m)) : FS X P fx W (.Return (some e) pos) (sRetX m) := by
  refine PS.imp (ps_ret he) ?_
  rintro D σ H ⟨M, r, ss, rw, o, I, e, q⟩
  unfold sRetX at e
  split at e
  next x rw1 e1 =>
    cases e
    exact ⟨M, r, ss, rw, _, rw1, I, e1, fun v H1 k1 I1 hv => q v H1 (Gr.ofR (ss := ss) k1 I1).keep (Gr.ofR (ss := ss) k1 I1).live I1.rowAt (VR.mono (mk_sub msk_out) hv)⟩
  next ex rw1 e1 =>
    cases e
    exact ⟨M, r, ss, rw, _, rw1, I, e1, fun cls d H1 k1 I1 hx => q σ cls d H1 (Gr.ofR k1 I1) I1 hx⟩
  next => cases e
def sSetX (i : Nat) (m : Mx Res) : Sx := fun ss rw => match m ss rw with
  | some (.ok x, rw1) => (match putS i (.vl x) ss with
    | some ss1 => some (.nx ss1 rw1)
    | none => none)
  | some (.er ex, rw1) => some (.er ex ss rw1)
  | none => none
theorem fs_setX {i : Nat} {y : Str} {e : Expr} {m : Mx Res} {pos pos' : Pos} (hi : X.N[i]? = some y) (hx : Loc X.env.scope y) (he : PE X e (tEX P fx W m)) (hN : X.N.Nodup) (hf : X.fn y = true ∨ X.env.scope.names.lookup y = some .local) (hs : swapsWith e (some (.Name y pos')) pos.line X.env = pure false := by rfl) :
    FS X P fx W (.Assign [.Name y pos'] e pos) (sSetX i m) := by
  refine PS.imp (ps_set hN hi hx he hs hf) ?_
  rintro D σ H ⟨M, r, ss, rw, o, I, e, q⟩
  unfold sSetX at e
  split at e
  next x rw1 e1 =>
    unfold putS at e
    split at e
    next ss1 e2 =>
      split at e2
      next hi =>
        cases e2
        cases e
        exact ⟨M, r, ss, rw, _, rw1, I, e1, fun v H1 k1 I1 hv => q _ H1 ((Gr.ofR k1 I1).trans Gr.setv) (I1.setv hi hv)⟩
      next => cases e2
    next => cases e
  next ex rw1 e1 =>
    cases e
    exact ⟨M, r, ss, rw, _, rw1, I, e1, fun cls d H1 k1 I1 hx => q σ cls d H1 (Gr.ofR k1 I1) I1 hx⟩
  next => cases e
end
end FL
/-! isinstance; reads of lists that may be own; defs by name. -/
namespace FL
open PySem L2
theorem hu64 {k : Nat} {A : Around} (r : Room k A) : A.units + 64 < cLine := r.units
theorem hu65 {k : Nat} {A : Around} (r : Room k A) : A.units + 65 < cLine := by have := r.un; omega
section
variable {P : Pm} {X : Cx}
/-! ### isinstance -/
def tyN : PyData → String
  | .none => "NoneType"
  | .bool _ => "bool"
  | .int _ => "int"
  | .str _ => "str"
  | .list _ => "list"
  | .tuple _ => "tuple"
  | .dict _ => "dict"
theorem dr_ty {K : PySem.W.Frag} {H : Hp} {v : V} {d : PyData} (h : DR K H v d) : TyX K H v (.type (tyN d)) := by
  cases h with
  | non => exact .base .non
  | bl b => exact .base (.bl b)
  | int i => exact .base (.int i)
  | str x => exact .base (.str x)
  | lst a b => exact .base (.lst a)
  | tup a b =>
    rcases a with (a | ⟨o, a⟩) | ⟨o, its, n, a, c, _⟩
    · exact .base (.tup a)
    · exact .fTuple a
    · exact .kTuple a c
/-- is a thing of the first type one of the second -/
def isTy (a b : String) : Bool := a == b || (a == "bool" && b == "int")
def okTy : List String := ["tuple", "list", "bool", "str", "int"]
def noDict : PyData → Bool
  | .dict _ => false
  | _ => true
theorem kit_all : ∀ (d : PyData) (b : String), b ∈ okTy → noDict d = true → kitB (tyN d) b = some (isTy (tyN d) b) := by
  intro d b hb hd
  have h2 : ∀ a ∈ ["NoneType", "bool", "int", "str", "list", "tuple"], ∀ b ∈ okTy, kitB a b = some (isTy a b) := by decide +kernel
  refine h2 _ ?_ b hb
  cases d <;> first
    | (simp [tyN]; done)
    | cases hd
theorem dr_nodict {K : PySem.W.Frag} {H : Hp} {v : V} {d : PyData} (h : DR K H v d) : noDict d = true := by
  cases h <;> rfl
def isiD (T : String) : Vl → Option Vl
  | .dat d => some (.dat (.bool (isTy (tyN d) T)))
  | _ => none
theorem fe_isi {T : String} {x2 : Str} {a : Expr} {fa : Mx Vl} {p p2 pos : Pos} (ha : FE X P a fa) (hm : X.mg "isinstance" = none) (hT : T ∈ okTy) (hm2 : X.mg x2 = none) (hv2 : bootBuiltins x2 = some (.type T)) (hK : X.K = P.K := by rfl) (hg : Gl X "isinstance" := by rfl) (hg2 : Gl X x2 := by rfl)
    (hn2 : x2 ≠ "__name__" := by decide) (hd2 : (x2 == ("__debug__" : Str)) = false := by decide) (h1 : starEach [a, .Name x2 p2] X.env = (false, eval a X.env) :: starEach [.Name x2 p2] X.env := by rfl) (h2 : starEach [.Name x2 p2] X.env = (false, eval (.Name x2 p2) X.env) :: starEach [] X.env := by rfl)
    (hpl : (backTo pos (starEach [.Name x2 p2] X.env)).any (·.1) = false := by rfl) : FE X P (.Call (.Name "isinstance" p) [a, .Name x2 p2] [] pos) (m1 (isiD T) fa) := by
  refine PE.imp (pe_callB call_isi hg hm (by decide +kernel) (pa_cons ha (pa_cons (pe_bltn (v := .ty T) hg2 hm2 hv2 rfl hn2 hd2) pa_nil h2) h1) (by decide) (by decide) h1 hpl) ?_
  rw [hK]
  rintro σ H Q ⟨M, r, ss, rw, z, rw', I, e, q⟩
  obtain ⟨y, rw1, e1, e⟩ := bnd_some e
  obtain ⟨e2, rfl⟩ := opt_some e
  refine ⟨M, r, ss, rw, y, _, I, e1, fun v H1 k1 I1 hv => ?_⟩
  unfold isiD at e2
  split at e2
  next d =>
    cases e2
    have hv : DR P.K (hdn (Msk M r σ ss) H1) v d := hv
    have hv' := dr_mono (mk_le _ H1) _ _ hv
    exact ⟨v, .ty T, _, _, _, rfl, .ty T, dr_ty hv', kit_ty (kit_all d T hT (dr_nodict hv')), q _ H1 k1 I1 (DR.bl _)⟩
  next => cases e2
/-- isinstance(x, (T, U)) -/
def isi2D (T U : String) : Vl → Option Vl
  | .dat d => some (.dat (.bool (isTy (tyN d) T || isTy (tyN d) U)))
  | _ => none
theorem fe_isi2 {T U : String} {x2 x3 : Str} {a : Expr} {fa : Mx Vl} {p p2 p3 p4 pos : Pos} {kk : Nat} (ha : FE X P a fa) (hm : X.mg "isinstance" = none) (hT : T ∈ okTy) (hU : U ∈ okTy) (hm2 : X.mg x2 = none) (hv2 : bootBuiltins x2 = some (.type T)) (hm3 : X.mg x3 = none) (hv3 : bootBuiltins x3 = some (.type U)) (hK : X.K = P.K := by rfl)
    (hg : Gl X "isinstance" := by rfl) (hg2 : Gl X x2 := by rfl) (hg3 : Gl X x3 := by rfl)
    (hn2 : x2 ≠ "__name__" := by decide) (hd2 : (x2 == ("__debug__" : Str)) = false := by decide) (hn3 : x3 ≠ "__name__" := by decide) (hd3 : (x3 == ("__debug__" : Str)) = false := by decide)
    (h1 : starEach [a, .Tuple [.Name x2 p2, .Name x3 p3] kk p4] X.env = (false, eval a X.env) :: starEach [.Tuple [.Name x2 p2, .Name x3 p3] kk p4] X.env := by rfl)
    (h2 : starEach [.Tuple [.Name x2 p2, .Name x3 p3] kk p4] X.env = (false, eval (.Tuple [.Name x2 p2, .Name x3 p3] kk p4) X.env) :: starEach [] X.env := by rfl)
    (h3 : starEach [.Name x2 p2, .Name x3 p3] X.env = (false, eval (.Name x2 p2) X.env) :: starEach [.Name x3 p3] X.env := by rfl) (h4 : starEach [.Name x3 p3] X.env = (false, eval (.Name x3 p3) X.env) :: starEach [] X.env := by rfl)
    (hpl : (backTo pos (starEach [.Tuple [.Name x2 p2, .Name x3 p3] kk p4] X.env)).any (·.1) = false := by rfl) :
    FE X P (.Call (.Name "isinstance" p) [a, .Tuple [.Name x2 p2, .Name x3 p3] kk p4] [] pos) (m1 (isi2D T U) fa) := by
  refine PE.imp (pe_callB call_isiT hg hm (by decide +kernel) (pa_cons ha (pa_cons (pe_tup (pa_cons (pe_bltn (v := .ty T) hg2 hm2 hv2 rfl hn2 hd2) (pa_cons (pe_bltn (v := .ty U) hg3 hm3 hv3 rfl hn3 hd3) pa_nil h4) h3)) pa_nil h2) h1) (by decide) (by decide) h1 hpl) ?_
  rw [hK]
  rintro σ H Q ⟨M, r, ss, rw, z, rw', I, e, q⟩
  obtain ⟨y, rw1, e1, e⟩ := bnd_some e
  obtain ⟨e2, rfl⟩ := opt_some e
  refine ⟨M, r, ss, rw, y, _, I, e1, fun v H1 k1 I1 hv => ⟨by show 2 ≤ sizeLine; decide, fun tp htp => ?_⟩⟩
  unfold isi2D at e2
  split at e2
  next d =>
    cases e2
    have hv : DR P.K (hdn (Msk M r σ ss) H1) v d := hv
    have s3 : Same H1 (upd H1 tp (.tup [.ty T, .ty U])) := upd_same' htp
    have hv' := dr_mono s3 _ _ (dr_mono (mk_le _ H1) _ _ hv)
    have nd := dr_nodict hv'
    refine ⟨v, tp, _, _, _, _, rfl, upd_same, .cons (.ty T) (.cons (.ty U) .nil), dr_ty hv', ?_, q _ _ (k1.trans (KeepR.of s3)) (I1.grow s3) (DR.bl _)⟩
    refine kitAny_cons (kit_ty (kit_all d T hT nd)) (fun hf => ?_) fun ht => by rw [ht]; rfl
    rw [hf, Bool.false_or]
    exact kitAny_cons (kit_ty (kit_all d U hU nd)) (fun hf => by rw [hf]; exact kitAny_nil) fun ht => ht
  next => cases e2

/-! ### a list that may be own -/
def mIxV (i : Nat) (fb : Mx Vl) : Mx Vl := bnd fb fun y => fun ss rw => match ss[i]? with
  | some (.own ds) => (match y with
    | .dat (.int k) => (match atI ds k with
      | some d => some (.dat d, rw)
      | none => none)
    | _ => none)
  | some (.vl x) => (match ixD x y with
    | some z => some (z, rw)
    | none => none)
  | _ => none
theorem fe_ixV {i : Nat} {x : Str} {b : Expr} {fb : Mx Vl} {p0 pos : Pos} (hv : PE X (.Name x p0) (tVar i)) (hb : FE X P b fb) (hK : X.K = P.K := by rfl) (hs : PlainIx b := by exact (fun _ _ => rfl)) : FE X P (.Subscript (.Name x p0) b pos) (mIxV i fb) := by
  refine PE.imp (pe_ix ix_seq hv hb hs) ?_
  rw [hK]
  rintro σ H Q ⟨M, r, ss, rw, z, rw', I, e, q⟩
  obtain ⟨y, rw1, e1, e⟩ := bnd_some e
  split at e
  next ds hi =>
    split at e
    next k =>
      split at e
      next d ed =>
        cases e
        obtain ⟨p, vs, h1, h2, h3, h4, h5⟩ := I.ow i ds hi
        refine ⟨_, h1, M, r, ss, rw, _, _, I, e1, fun u H1 k1 I1 hu => ?_⟩
        obtain ⟨p', vs', g1, g2, g3, _⟩ := I1.ow i ds hi
        rw [h1] at g1
        cases g1
        rw [vr_int hu]
        obtain ⟨w, w1, w2⟩ := atI_all g3 ed
        exact .inl ⟨p, vs', k, w, rfl, rfl, SqL.of g2, w1, q w H1 k1 I1 w2⟩
      next => cases e
    next => cases e
  next x hi =>
    split at e
    next z' ez =>
      cases e
      obtain ⟨v, h1, h2⟩ := I.sl i x hi
      refine ⟨v, h1, M, r, ss, rw, _, _, I, e1, fun u H1 k1 I1 hu => ?_⟩
      exact ok_ix (Msk M r σ ss) H1 v u x y z Q I1.alloc (VR.mono k1.msk h2) hu ez fun w H3 s3 hw => q w H3 (k1.trans (KeepR.of s3)) (I1.grow s3) hw
    next => cases e
  next => cases e

/-! ### defs by name -/
/-- the def of this name stands there, and keeps its promise -/
def Dn (Pg : Program) (w : World) (K : PySem.W.Frag) (mg : Str → Option Value) (base : Heap) (CX : CXT) (k : Nat) (x : Str) (ps : List Str) (sp : Sp) : Prop :=
  ∃ f fd, FnOk Pg w K mg base CX k f fd ps sp ∧ mg x = some (.ref f) ∧ PySem.W.keepIn K (.ref f) = true ∧ Binds K fd ps []
/-- the def's text stands under its name -/
def Hr (K : PySem.W.Frag) (mg : Str → Option Value) (x : Str) (st : Stmt) : Prop := ∃ f fd, Fun K x x st f fd ∧ mg x = some (.ref f)
end
section
variable {P : Pm} {X : Cx} {fx : Nat → Addr} {W : WX} {k : Nat} {ps : List Str} {x : Str} {p pos : Pos} {e : Expr} {es : List Expr} {ma : Mx (List Vl)}
theorem fe_callD {F : List Vl → Option Vl} (D : Dn X.prog X.w X.K X.mg X.base CX0 k x ps (spP P F)) (hr : Room k X.A) (ha : FA X P (e :: es) ma)
    (hg : Gl X x := by rfl) (hdb : (x == ("__debug__" : Str)) = false := by decide) (he : starEach (e :: es) X.env = (false, eval e X.env) :: starEach es X.env := by rfl) (hpl : (backTo pos (starEach es X.env)).any (·.1) = false := by rfl) :
    FE X P (.Call (.Name x p) (e :: es) [] pos) (mCall F ma) := by
  obtain ⟨f, fd, G, h1, h2, h3⟩ := D
  exact fe_call G hr h1 h2 h3 ha hg hdb he hpl
theorem fl_callD {F : List Vl → Option (List PyData)} (D : Dn X.prog X.w X.K X.mg X.base CX0 k x ps (spL P F)) (hr : Room k X.A) (ha : FA X P (e :: es) ma)
    (hg : Gl X x := by rfl) (hdb : (x == ("__debug__" : Str)) = false := by decide) (he : starEach (e :: es) X.env = (false, eval e X.env) :: starEach es X.env := by rfl) (hpl : (backTo pos (starEach es X.env)).any (·.1) = false := by rfl) :
    FL X P (.Call (.Name x p) (e :: es) [] pos) (mCallL F ma) := by
  obtain ⟨f, fd, G, h1, h2, h3⟩ := D
  exact fl_call G hr h1 h2 h3 ha hg hdb he hpl
theorem fe_callRD {F : List Vl → Ro → Option (Vl × Ro)} {i : Nat} {y : Str} {p0 : Pos} (D : Dn X.prog X.w X.K X.mg X.base CX0 k x ps (spR P F)) (hr : Room k X.A) (h0 : PE X (.Name y p0) (tVar i)) (ha : FA X P es ma)
    (hg : Gl X x := by rfl) (hdb : (x == ("__debug__" : Str)) = false := by decide) (he : starEach (.Name y p0 :: es) X.env = (false, eval (.Name y p0) X.env) :: starEach es X.env := by rfl) (hpl : (backTo pos (starEach es X.env)).any (·.1) = false := by rfl) :
    FE X P (.Call (.Name x p) (.Name y p0 :: es) [] pos) (mCallR i F ma) := by
  obtain ⟨f, fd, G, h1, h2, h3⟩ := D
  exact fe_callR G hr h1 h2 h3 h0 ha hg hdb he hpl
theorem fx_callD {F : List Vl → Option Res} (D : Dn X.prog X.w X.K X.mg X.base (L2.CX X.prog X.w) k x ps (spX P fx F)) (hr : Room k X.A) (tk : Takes X W) (ha : FA X P (e :: es) ma)
    (hg : Gl X x := by rfl) (hdb : (x == ("__debug__" : Str)) = false := by decide) (he : starEach (e :: es) X.env = (false, eval e X.env) :: starEach es X.env := by rfl) (hpl : (backTo pos (starEach es X.env)).any (·.1) = false := by rfl) :
    PE X (.Call (.Name x p) (e :: es) [] pos) (tEX P fx W (mCallX F ma)) := by
  obtain ⟨f, fd, G, h1, h2, h3⟩ := D
  exact fx_call G hr h1 h2 h3 tk ha hg hdb he hpl
end
section
variable {Pg : Program} {w : World} {K : PySem.W.Frag} {mg : Str → Option Value} {base : Heap} {P : Pm} {fx : Nat → Addr} {x : Str} {st : Stmt} {N ps : List Str} {k : Nat} {m : Sx}
abbrev Bnd (ps : List Str) (x : Str) (st : Stmt) : Prop := ∀ (kV doc pm : Value) (an : Option Addr) (cdv ct : Value) (us : List Value), us.length = ps.length → bindArgs (PySem.W.fnOf x x (defArgs st) (defBody st) (defScope st) .none kV doc pm an cdv ct) ⟨us, []⟩ = pure (ps.zip us)
theorem dn_P (h : Hr K mg x st) (S : FnScope N ps (defScope st)) (hk : ps.length ≤ N.length) (B : Bnd ps x st)
    (hb : ∀ (f : Addr) (cdv : Value) (A : Around) (outer : List Env) (s : Shared) (H : Hp) (E : XK), Room k (A.deeper (PyProof.Rows.envOfC x (defScope st) s.heap.objs.size f cdv)) → FSs (cxOf CX0 Pg w K mg base N x (defScope st) f cdv A outer s H E).nox P fx W0 (defBody st) m) :
    Dn Pg w K mg base CX0 (k + 1) x ps (spP P (bodyP N.length ps.length m)) := by
  obtain ⟨f, fd, F, h1⟩ := h
  exact ⟨f, fd, fn_P F S hk fun cdv A outer s H E hr => hb f cdv A outer s H E hr, h1, F.kp, F.binds B⟩
theorem dn_L (h : Hr K mg x st) (S : FnScope N ps (defScope st)) (hk : ps.length ≤ N.length) (B : Bnd ps x st)
    (hb : ∀ (f : Addr) (cdv : Value) (A : Around) (outer : List Env) (s : Shared) (H : Hp) (E : XK), Room k (A.deeper (PyProof.Rows.envOfC x (defScope st) s.heap.objs.size f cdv)) → FSs (cxOf CX0 Pg w K mg base N x (defScope st) f cdv A outer s H E).nox P fx W0 (defBody st) m) :
    Dn Pg w K mg base CX0 (k + 1) x ps (spL P (bodyL N.length ps.length m)) := by
  obtain ⟨f, fd, F, h1⟩ := h
  exact ⟨f, fd, fn_L F S hk fun cdv A outer s H E hr => hb f cdv A outer s H E hr, h1, F.kp, F.binds B⟩
theorem dn_R (h : Hr K mg x st) (S : FnScope N ps (defScope st)) (hk : ps.length ≤ N.length) (h0 : 0 < ps.length) (B : Bnd ps x st)
    (hb : ∀ (f : Addr) (cdv : Value) (A : Around) (outer : List Env) (s : Shared) (H : Hp) (E : XK), Room k (A.deeper (PyProof.Rows.envOfC x (defScope st) s.heap.objs.size f cdv)) → FSs (cxOf CX0 Pg w K mg base N x (defScope st) f cdv A outer s H E).nox P fx W0 (defBody st) m) :
    Dn Pg w K mg base CX0 (k + 1) x ps (spR P (bodyR N.length (ps.length - 1) m)) := by
  obtain ⟨f, fd, F, h1⟩ := h
  exact ⟨f, fd, fn_R F S hk h0 fun cdv A outer s H E hr => hb f cdv A outer s H E hr, h1, F.kp, F.binds B⟩
theorem dn_X (h : Hr K mg x st) (S : FnScope N ps (defScope st)) (hk : ps.length ≤ N.length) (B : Bnd ps x st)
    (hb : ∀ (f : Addr) (cdv : Value) (A : Around) (outer : List Env) (s : Shared) (H : Hp) (E : XK), Room k (A.deeper (PyProof.Rows.envOfC x (defScope st) s.heap.objs.size f cdv)) →
      FSs (cxOf (L2.CX Pg w) Pg w K mg base N x (defScope st) f cdv A outer s H E) P fx (fun cls d _ H => E cls d H) (defBody st) m) :
    Dn Pg w K mg base (L2.CX Pg w) (k + 1) x ps (spX P fx (bodyX N.length ps.length m)) := by
  obtain ⟨f, fd, F, h1⟩ := h
  exact ⟨f, fd, fn_X F S hk fun cdv A outer s H E hr => hb f cdv A outer s H E hr, h1, F.kp, F.binds B⟩
end
end FL
/-! Constants of the module, dicts of the module, what the printed terms want besides. -/
namespace FL
open PySem L2
section
variable {P : Pm} {X : Cx} {fx : Nat → Addr} {W : WX} {x : Str} {pos : Pos}
theorem tE_list {ml : Mx (List PyData)} {σ : St} {H : Hp} {Q : VK} (h : tE P (mList ml) σ H Q) : tL P ml σ H Q := by
  obtain ⟨M, r0, ss, rw, z, rw', I, e, q⟩ := h
  obtain ⟨ds, rw1, e1, e⟩ := bnd_some e
  obtain ⟨rfl, rfl⟩ := pur_some e
  refine ⟨M, r0, ss, rw, ds, _, I, e1, fun p vs H1 k1 I1 hp h1 ha => q _ H1 k1 I1.unhide ?_⟩
  refine DR.lst (mk_at (not_S I.alloc hp) h1) (drAll_mono (mk_sub fun a z => ?_) _ _ ha)
  rcases z with z | z | z
  · exact .inl (.inl z)
  · exact .inr (.inl z)
  · exact .inr (.inr z)
theorem fs_own {i : Nat} {e : Expr} {ml : Mx (List PyData)} {pos' : Pos} (hi : X.N[i]? = some x) (hx : Loc X.env.scope x) (he : FL X P e ml) (hN : X.N.Nodup) (hf : X.fn x = true ∨ X.env.scope.names.lookup x = some .local) (hs : swapsWith e (some (.Name x pos')) pos.line X.env = pure false := by rfl) :
    FS X P fx W (.Assign [.Name x pos'] e pos) (sOwn i ml) := PS.imp (ps_set hN hi hx he hs hf) (tS_own fun _ _ _ h => h)
theorem fe_globI {n : Int} (h : ∃ t, X.mg x = some (.int n t)) (hg : Gl X x := by rfl) (hd : (x == ("__debug__" : Str)) = false := by decide) : FE X P (.Name x pos) (mC (.int n)) := by
  obtain ⟨t, h⟩ := h
  exact fe_glob (v := .int n) h ⟨t, rfl⟩ (fun _ => .int n) hg hd
theorem fe_globS {z : Str} (h : ∃ t, X.mg x = some (.str z t)) (hg : Gl X x := by rfl) (hd : (x == ("__debug__" : Str)) = false := by decide) : FE X P (.Name x pos) (mC (.str z)) := by
  obtain ⟨t, h⟩ := h
  exact fe_glob (v := .str z) h ⟨t, rfl⟩ (fun _ => .str z) hg hd
theorem fe_globT {d : PyData} (h : ∃ a, X.mg x = some (.ref a) ∧ ∀ H, DR X.K H (.ref a) d) (hK : X.K = P.K := by rfl) (hg : Gl X x := by rfl) (hd : (x == ("__debug__" : Str)) = false := by decide) : FE X P (.Name x pos) (mC d) := by
  obtain ⟨a, h, hr⟩ := h
  refine fe_glob h (v := .ref a) rfl (fun H => ?_) hg hd
  rw [← hK]
  exact hr H
/-! ### a dict of the module: text keys, ints -/
def Gd (K : PySem.W.Frag) (w : World) (mg : Str → Option Value) (x : Str) (kvs : List (Str × Int)) : Prop := ∃ a es n, mg x = some (.ref a) ∧ KDict K w a es n ∧
  ∀ z, (kvs.lookup z = none → PySem.W.nsIn K a z = some none) ∧ ∀ v, kvs.lookup z = some v → ∃ t, PySem.W.nsIn K a z = some (some (.int v t))
def inG (kvs : List (Str × Int)) : Vl → Option Vl
  | .dat (.str z) => some (.dat (.bool (kvs.lookup z).isSome))
  | _ => none
def ninG (kvs : List (Str × Int)) : Vl → Option Vl
  | .dat (.str z) => some (.dat (.bool (!(kvs.lookup z).isSome)))
  | _ => none
def ixG (kvs : List (Str × Int)) : Vl → Option Vl
  | .dat (.str z) => match kvs.lookup z with
    | some v => some (.dat (.int v))
    | none => none
  | _ => none
theorem gd_look {K : PySem.W.Frag} {a : Addr} {kvs : List (Str × Int)} (h : ∀ z, (kvs.lookup z = none → PySem.W.nsIn K a z = some none) ∧ ∀ v, kvs.lookup z = some v → ∃ t, PySem.W.nsIn K a z = some (some (.int v t))) (z : Str) :
    ∃ r, PySem.W.nsIn K a z = some r ∧ r.isSome = (kvs.lookup z).isSome := by
  cases e : kvs.lookup z with
  | none => exact ⟨none, (h z).1 e, rfl⟩
  | some v =>
    obtain ⟨t, g⟩ := (h z).2 v e
    exact ⟨_, g, rfl⟩
section
variable {kvs : List (Str × Int)} {e : Expr} {fa : Mx Vl} {p2 : Pos}
theorem tE_inG (r : R2) (g : Vl → Option Vl) {u : V} (hr : ∀ (H : Hp) (z : Str) (Q : VK) (w : Vl), g (.dat (.str z)) = some w → (∀ b, w = .dat (.bool b) → Q (.bl b) H) → r (.str z) u H Q) (hg : ∀ y w, g y = some w → ∃ z b, y = .dat (.str z) ∧ w = .dat (.bool b)) :
    ∀ σ H Q, tE P (m1 g fa) σ H Q → tOp r (tE P fa) (tC u) σ H Q := by
  rintro σ H Q ⟨M, r0, ss, rw, z, rw', I, e, q⟩
  obtain ⟨y, rw1, e1, e⟩ := bnd_some e
  obtain ⟨e2, rfl⟩ := opt_some e
  refine ⟨M, r0, ss, rw, y, _, I, e1, fun v H1 k1 I1 hv => ?_⟩
  obtain ⟨s, b, rfl, rfl⟩ := hg y z e2
  show r v u H1 Q
  rw [vr_str hv]
  exact hr H1 s Q _ e2 fun b' hb => by cases hb; exact q _ H1 k1 I1 (DR.bl _)
theorem inG_of {y w : Vl} (h : inG kvs y = some w) : ∃ z b, y = .dat (.str z) ∧ w = .dat (.bool b) := by
  unfold inG at h
  split at h
  next z => cases h; exact ⟨z, _, rfl, rfl⟩
  next => cases h
theorem ninG_of {y w : Vl} (h : ninG kvs y = some w) : ∃ z b, y = .dat (.str z) ∧ w = .dat (.bool b) := by
  unfold ninG at h
  split at h
  next z => cases h; exact ⟨z, _, rfl, rfl⟩
  next => cases h
theorem fe_inG (h : Gd X.K X.w X.mg x kvs) (he : FE X P e fa) (hg : Gl X x := by rfl) (hd : (x == ("__debug__" : Str)) = false := by decide) (hm : behindInMarks .In (.Name x p2) = false := by with_unfolding_all rfl) : FE X P (.Compare e [.In] [.Name x p2] pos) (m1 (inG kvs) fa) := by
  obtain ⟨a, es, n, h1, h2, h3⟩ := h
  refine PE.imp (pe_cmpR (op_in_kd h2) he (pe_glob hg h1 (v := .ref a) rfl hd) hm) (tE_inG _ _ (fun H z Q w ew qw => ?_) fun y w => inG_of)
  obtain ⟨r, g1, g2⟩ := gd_look h3 z
  refine ⟨z, r, rfl, rfl, g1, ?_⟩
  cases ew
  rw [g2]
  exact qw _ rfl
theorem fe_ninG (h : Gd X.K X.w X.mg x kvs) (he : FE X P e fa) (hg : Gl X x := by rfl) (hd : (x == ("__debug__" : Str)) = false := by decide) (hm : behindInMarks .NotIn (.Name x p2) = false := by with_unfolding_all rfl) : FE X P (.Compare e [.NotIn] [.Name x p2] pos) (m1 (ninG kvs) fa) := by
  obtain ⟨a, es, n, h1, h2, h3⟩ := h
  refine PE.imp (pe_cmpR (op_notIn_kd h2) he (pe_glob hg h1 (v := .ref a) rfl hd) hm) (tE_inG _ _ (fun H z Q w ew qw => ?_) fun y w => ninG_of)
  obtain ⟨r, g1, g2⟩ := gd_look h3 z
  refine ⟨z, r, rfl, rfl, g1, ?_⟩
  cases ew
  rw [g2]
  exact qw _ rfl
theorem ft_inG (h : Gd X.K X.w X.mg x kvs) (he : FE X P e fa) (hg : Gl X x := by rfl) (hd : (x == ("__debug__" : Str)) = false := by decide) (hm : behindInMarks .In (.Name x p2) = false := by with_unfolding_all rfl) : FT X P (.Compare e [.In] [.Name x p2] pos) (mTst (m1 (inG kvs) fa)) := by
  obtain ⟨a, es, n, h1, h2, h3⟩ := h
  refine PT.imp (pt_cmpR (op_in_kd h2) he (pe_glob hg h1 (v := .ref a) rfl hd) hm) (tT_test (tE_inG _ _ (fun H z Q w ew qw => ?_) fun y w => inG_of))
  obtain ⟨r, g1, g2⟩ := gd_look h3 z
  refine ⟨z, r, rfl, rfl, g1, ?_⟩
  cases ew
  rw [g2]
  exact qw _ rfl
theorem ft_ninG (h : Gd X.K X.w X.mg x kvs) (he : FE X P e fa) (hg : Gl X x := by rfl) (hd : (x == ("__debug__" : Str)) = false := by decide) (hm : behindInMarks .NotIn (.Name x p2) = false := by with_unfolding_all rfl) : FT X P (.Compare e [.NotIn] [.Name x p2] pos) (mTst (m1 (ninG kvs) fa)) := by
  obtain ⟨a, es, n, h1, h2, h3⟩ := h
  refine PT.imp (pt_cmpR (op_notIn_kd h2) he (pe_glob hg h1 (v := .ref a) rfl hd) hm) (tT_test (tE_inG _ _ (fun H z Q w ew qw => ?_) fun y w => ninG_of))
  obtain ⟨r, g1, g2⟩ := gd_look h3 z
  refine ⟨z, r, rfl, rfl, g1, ?_⟩
  cases ew
  rw [g2]
  exact qw _ rfl
theorem fe_ixG (h : Gd X.K X.w X.mg x kvs) (he : FE X P e fa) (hg : Gl X x := by rfl) (hd : (x == ("__debug__" : Str)) = false := by decide) (hs : PlainIx e := by exact (fun _ _ => rfl)) : FE X P (.Subscript (.Name x p2) e pos) (m1 (ixG kvs) fa) := by
  obtain ⟨a, es, n, h1, h2, h3⟩ := h
  refine PE.imp (pe_ix ix_kdict (pe_glob hg h1 (v := .ref a) rfl hd) he hs) ?_
  rintro σ H Q ⟨M, r0, ss, rw, z, rw', I, e, q⟩
  obtain ⟨y, rw1, e1, e⟩ := bnd_some e
  obtain ⟨e2, rfl⟩ := opt_some e
  refine ⟨M, r0, ss, rw, y, _, I, e1, fun v H1 k1 I1 hv => ?_⟩
  unfold ixG at e2
  split at e2
  next s =>
    split at e2
    next n ev =>
      cases e2
      rw [vr_str hv]
      obtain ⟨t, g⟩ := (h3 s).2 _ ev
      exact ⟨a, s, .int n, rfl, rfl, ⟨es, _, _, h2.at_, h2.lit, g, ⟨t, rfl⟩⟩, q _ H1 k1 I1 (DR.int _)⟩
    next => cases e2
  next => cases e2
theorem ft_inV {i : Nat} {a : Expr} {p0 : Pos} (ha : FE X P a fa) (hv : PE X (.Name x p0) (tVar i)) (hK : X.K = P.K := by rfl) (hm : behindInMarks .In (.Name x p0) = false := by with_unfolding_all rfl) : FT X P (.Compare a [.In] [.Name x p0] pos) (mTst (mInO i fa)) := by
  refine PT.imp (pt_cmpR op_in_seq ha hv hm) (tT_test ?_)
  rw [hK]
  rintro σ H Q ⟨M, r, ss, rw, z, rw', I, e, q⟩
  obtain ⟨y, rw1, e1, e⟩ := bnd_some e
  refine ⟨M, r, ss, rw, _, _, I, e1, fun u H1 k1 I1 hu => ?_⟩
  split at e
  next ds d hi =>
    split at e
    next v vs ev es =>
      cases e
      obtain ⟨p, ws, h1, h2, h3, h4, h5⟩ := I1.ow i ds hi
      have hu : DR P.K (hdn (Msk M r σ ss) H1) u d := hu
      obtain ⟨rfl, g3⟩ := dvs_dr h3 es
      have := dv_dr hu ev
      subst this
      exact ⟨_, h1, p, ws, rfl, .inl (SqL.of h2), flat_dv hu ev, g3, q _ H1 k1 I1 (DR.bl _)⟩
    next => cases e
  next => cases e
end
theorem passes_own {X : Cx} {E₁ : Value → Shared → Prop} {K : Value → Shared → Prop} (hx : X.xe = fun e s' => wpAny (model X.prog X.w) X.A (leaving X.env e) (fun _ s'' => K e s'') E₁ s') : PassesOwn (model X.prog X.w) X.A X.env X.xe := passes_of hx

/-! ### a house -/
/-- the house at y: its two lists -/
def HouseAt (K : PySem.W.Frag) (C : Addr) (H : Hp) (y : Addr) (ts ties : List PyData) : Prop := ∃ dx l1 l2 us vs, H y = some (.ins C dx (putF "_ties" (.ref l2) (putF "_things" (.ref l1) []))) ∧ H l1 = some (.lst us) ∧ DRAll K H us ts ∧ H l2 = some (.lst vs) ∧ DRAll K H vs ties
theorem HouseAt.mono {K : PySem.W.Frag} {C : Addr} {H H' : Hp} {y : Addr} {ts ties : List PyData} (e : Same H H') (h : HouseAt K C H y ts ties) : HouseAt K C H' y ts ties := by
  obtain ⟨dx, l1, l2, us, vs, h1, h2, h3, h4, h5⟩ := h
  exact ⟨dx, l1, l2, us, vs, e _ _ h1, e _ _ h2, drAll_mono e _ _ h3, e _ _ h4, drAll_mono e _ _ h5⟩
abbrev pm (K : PySem.W.Frag) (ns : List Int) (C : Addr) : Pm := ⟨K, ns, HouseAt K C, HouseAt.mono⟩
theorem hne : ¬ (("_things" : Str) = "_ties") := by decide +kernel
theorem house_no {l1 l2 : Addr} {m : Str} (h1 : ¬ m = "_ties") (h2 : ¬ m = "_things") : (putF "_ties" (V.ref l2) (putF "_things" (V.ref l1) [])).lookup m = none := by
  rw [lookup_putF, if_neg h1, lookup_putF, if_neg h2]
  rfl
/-- a method of the house -/
def Dm (Pg : Program) (w : World) (K : PySem.W.Frag) (mg : Str → Option Value) (base : Heap) (k : Nat) (C : Addr) (m : Str) (sp : Sp) : Prop :=
  ∃ f fd, FnOk Pg w K mg base CX0 k f fd ["self"] sp ∧ Meth K C m f ∧ Binds K fd ["self"] []
def mHse (F : List Vl → Option (List PyData)) (fo : Mx Vl) : Mx (List PyData) := mCallL F (bnd fo fun y => match y with
  | .hse t s => pur [.hse t s]
  | _ => opt none)
theorem fl_hse {ns : List Int} {C : Addr} {F : List Vl → Option (List PyData)} {o : Expr} {fo : Mx Vl} {m : Str} {apos : Pos} {k : Nat} {pl : Sem Bool} (c : Cls X.K C) (D : Dm X.prog X.w X.K X.mg X.base k C m (spL (pm X.K ns C) F)) (hr : Room k X.A) (ho : FE X (pm X.K ns C) o fo)
    (hn1 : ¬ m = ("_ties" : Str) := by decide +kernel) (hn2 : ¬ m = ("_things" : Str) := by decide +kernel)
    (ht : eval (.Call (.Attribute o m apos) [] [] pos) X.env = (do
      let ov ← eval o X.env
      standAt apos.atName
      let (f, first) ← holding [ov] (getMethod ov m pl)
      callWith pos f first (backTo pos (starEach [] X.env)) (backToKw pos (keywordEach [] X.env))) := by rfl) :
    FL X (pm X.K ns C) (.Call (.Attribute o m apos) [] [] pos) (mHse F fo) := by
  obtain ⟨f, fd, G, h1, h2⟩ := D
  refine fl_meth0 G hr c h1 h2 ho (fun H y t s h => ?_) ht
  obtain ⟨dx, l1, l2, us, vs, g1, _⟩ := h
  exact ⟨dx, _, g1, house_no hn1 hn2⟩
end
end FL
/-! zip; the number drawn; a house made and read. -/
namespace FL
open PySem L2
section
variable {P : Pm} {X : Cx} {a b : Expr} {fa fb : Mx Vl}
/-! ### zip of two lists, of two tuples -/
theorem wlk_pair {J : It} {n : Nat} {G : Hp → Prop} {S : Addr → Prop} {H : Hp} {us vs : List V} {ds es : List PyData} (wk : Walk J n G (YPair (fun i => us[i]?) (fun i => vs[i]?))) (hn : n = min us.length vs.length)
    (hG : ∀ S1 H1, Same (hdn S H) (hdn S1 H1) → G H1) (h1 : DRAll P.K (hdn S H) us ds) (h2 : DRAll P.K (hdn S H) vs es) : Wlk P S H J (zpD ds es) := fun S1 H1 s al => by
  have l1 := DRAll.length h1
  have l2 := DRAll.length h2
  have hl : (zpD ds es).length = n := by rw [zpD_len, hn, l1, l2]
  have g := hG S1 H1 s
  refine ⟨fun i hi => ⟨wk.goes i H1 (by rw [← hl]; exact hi) g, fun x H' y => ?_⟩, by rw [hl]; exact wk.stops H1 g⟩
  obtain ⟨T, u, v, e1, e2, e3, e4, e5⟩ := wk.yields i H1 x H' (by rw [← hl]; exact hi) g y
  have e4 : us[i]? = some u := e4
  have e5 : vs[i]? = some v := e5
  have hi' : i < min ds.length es.length := by rw [← zpD_len]; exact hi
  obtain ⟨d, hd⟩ : ∃ d, ds[i]? = some d := ⟨ds[i]'(by omega), List.getElem?_eq_getElem (by omega)⟩
  obtain ⟨e, he⟩ : ∃ e, es[i]? = some e := ⟨es[i]'(by omega), List.getElem?_eq_getElem (by omega)⟩
  obtain ⟨u', g1, g2⟩ := DRAll.get h1 hd
  obtain ⟨v', g3, g4⟩ := DRAll.get h2 he
  rw [e4] at g1
  cases g1
  rw [e5] at g3
  cases g3
  subst e1 e3
  obtain ⟨k1, k2⟩ := new_pair (P := P) al e2 (dr_mono s _ _ g2) (dr_mono s _ _ g4)
  exact ⟨k1, _, zpD_get hd he, k2⟩
theorem walk_zipT {K : PySem.W.Frag} {p q : Addr} {xs ys : List V} {n : Nat} (hn : n = min xs.length ys.length) : Walk (RZ.ItzT K p q) n (fun H => SqT K H p xs ∧ SqT K H q ys) (YPair (fun i => xs[i]?) (fun i => ys[i]?)) := by
  subst hn
  refine ⟨fun i _ hi g => ?_, fun _ g => ⟨xs, ys, g.1, g.2, by omega⟩, fun i H v H' _ g y => ?_⟩
  · have h1 : i < xs.length := by omega
    have h2 : i < ys.length := by omega
    exact ⟨xs, ys, xs[i], ys[i], g.1, g.2, by simp [h1], by simp [h2]⟩
  · obtain ⟨T, x, z, h1, h2, h3, h4, h5⟩ := y
    exact ⟨T, x, z, h1, h2, h3, h4 xs g.1, h5 ys g.2⟩
def mZp (fa fb : Mx Vl) : Mx (List PyData) := bnd fa fun x => bnd fb fun y => opt (match x, y with
  | .dat (.list ds), .dat (.list es) => some (zpD ds es)
  | .dat (.tuple ds), .dat (.tuple es) => some (zpD ds es)
  | _, _ => none)
theorem fi_zip {p pos tpos : Pos} {elts : List Expr} {kk : Nat} (ha : FE X P a fa) (hb : FE X P b fb) (hm : X.mg "zip" = none) (hK : X.K = P.K := by rfl) (hg : Gl X "zip" := by rfl)
    (hs : starEach [a, b] X.env = (false, eval a X.env) :: starEach [b] X.env := by rfl) (hs2 : starEach [b] X.env = (false, eval b X.env) :: starEach [] X.env := by rfl) (hpl : (backTo pos (starEach [b] X.env)).any (·.1) = false := by rfl) :
    FI X P (.Tuple elts kk tpos) (.Call (.Name "zip" p) [a, b] [] pos) (mZp fa fb) := by
  refine PI.imp (RZ.pi_zipA hg hm (pa_cons ha (pa_cons hb pa_nil hs2) hs) hs hpl) ?_
  rw [hK]
  rintro σ H R ⟨M, r0, ss, rw, xs, rw', I, e, q⟩
  obtain ⟨y, rw1, e1, e⟩ := bnd_some e
  obtain ⟨z, rw2, e3, e⟩ := bnd_some e
  obtain ⟨e2, rfl⟩ := opt_some e
  refine ⟨M, r0, ss, rw, _, _, I, e1, fun v H1 k1 I1 hv => ⟨M, r0, ss, _, _, _, I1, e3, fun u H2 k2 I2 hu => ?_⟩⟩
  have hv2 := VR.mono k2.msk hv
  split at e2
  next ds es =>
    cases e2
    obtain ⟨p1, vs, rfl, h1, h2⟩ := vr_lst hv2
    obtain ⟨p2, us, rfl, g1, g2⟩ := vr_lst hu
    refine ⟨p1, p2, vs, us, rfl, .inl ⟨SqL.of (mk_le _ H2 _ _ h1), SqL.of (mk_le _ H2 _ _ g1), q _ H2 (k1.trans k2) I2 ?_⟩⟩
    exact wlk_pair (walk_zip rfl) rfl (fun S1 H3 s => ⟨SqL.of (mk_le _ H3 _ _ (s _ _ h1)), SqL.of (mk_le _ H3 _ _ (s _ _ g1))⟩) h2 g2
  next ds es =>
    cases e2
    obtain ⟨p1, vs, rfl, h1, h2⟩ := vr_tup hv2
    obtain ⟨p2, us, rfl, g1, g2⟩ := vr_tup hu
    refine ⟨p1, p2, vs, us, rfl, .inr ⟨sqT_mono (mk_le _ H2) h1, sqT_mono (mk_le _ H2) g1, q _ H2 (k1.trans k2) I2 ?_⟩⟩
    exact wlk_pair (walk_zipT rfl) rfl (fun S1 H3 s => ⟨sqT_mono (mk_le _ H3) (sqT_mono s h1), sqT_mono (mk_le _ H3) (sqT_mono s g1)⟩) h2 g2
  next => cases e2
end
section
variable {X : Cx} {K : PySem.W.Frag} {ns : List Int} {C : Addr} {fa : Mx Vl} {e : Expr} {pos : Pos}
/-! ### what a house holds -/
def fThs : Vl → Option Vl
  | .hse t _ => some (.dat (.list t))
  | _ => none
def fTis : Vl → Option Vl
  | .hse _ t => some (.dat (.list t))
  | _ => none
theorem fe_fld_things (c : Cls X.K C) (hn : NoAttr X.K C "_things") (he : FE X (pm X.K ns C) e fa) (hb : attributeBase e "_things" X.env (eval e X.env) = eval e X.env := by rfl) : FE X (pm X.K ns C) (.Attribute e "_things" pos) (m1 fThs fa) := by
  refine PE.imp (pe_fld he hb) ?_
  rintro σ H Q ⟨M, r0, ss, rw, z, rw', I, e, q⟩
  obtain ⟨y, rw1, e1, e⟩ := bnd_some e
  obtain ⟨e2, rfl⟩ := opt_some e
  refine ⟨M, r0, ss, rw, y, _, I, e1, fun v H1 k1 I1 hv => ?_⟩
  unfold fThs at e2
  split at e2
  next t s =>
    cases e2
    obtain ⟨y', rfl, dx, l1, l2, us, vs, h1, h2, h3, h4, h5⟩ := hv
    exact ⟨y', C, dx, _, .ref l1, rfl, mk_le _ H1 _ _ h1, c, hn, by rw [lookup_putF, if_neg hne, lookup_putF, if_pos rfl], q _ H1 k1 I1 (DR.lst h2 h3)⟩
  next => cases e2
theorem fe_fld_ties (c : Cls X.K C) (hn : NoAttr X.K C "_ties") (he : FE X (pm X.K ns C) e fa) (hb : attributeBase e "_ties" X.env (eval e X.env) = eval e X.env := by rfl) : FE X (pm X.K ns C) (.Attribute e "_ties" pos) (m1 fTis fa) := by
  refine PE.imp (pe_fld he hb) ?_
  rintro σ H Q ⟨M, r0, ss, rw, z, rw', I, e, q⟩
  obtain ⟨y, rw1, e1, e⟩ := bnd_some e
  obtain ⟨e2, rfl⟩ := opt_some e
  refine ⟨M, r0, ss, rw, y, _, I, e1, fun v H1 k1 I1 hv => ?_⟩
  unfold fTis at e2
  split at e2
  next t s =>
    cases e2
    obtain ⟨y', rfl, dx, l1, l2, us, vs, h1, h2, h3, h4, h5⟩ := hv
    exact ⟨y', C, dx, _, .ref l2, rfl, mk_le _ H1 _ _ h1, c, hn, by rw [lookup_putF, if_pos rfl], q _ H1 k1 I1 (DR.lst h4 h5)⟩
  next => cases e2
/-- list(e): a new list -/
def lstD : Vl → Option (List PyData)
  | .dat (.list ds) => some ds
  | .dat (.tuple ds) => some ds
  | _ => none
theorem fl_listOf {P : Pm} {p : Pos} (he : FE X P e fa) (hm : X.mg "list" = none) (hK : X.K = P.K := by rfl) (hg : Gl X "list" := by rfl) (he0 : starEach [e] X.env = (false, eval e X.env) :: starEach [] X.env := by rfl) (hpl : (backTo pos (starEach [] X.env)).any (·.1) = false := by rfl) :
    FL X P (.Call (.Name "list" p) [e] [] pos) (bnd fa fun x => opt (lstD x)) := by
  refine PE.imp (pe_callTy FL.call_lstD hg hm (by decide +kernel) (pa_cons he pa_nil he0) (by decide) (by decide) he0 hpl) ?_
  rw [hK]
  rintro σ H Q ⟨M, r0, ss, rw, z, rw', I, e, q⟩
  obtain ⟨y, rw1, e1, e⟩ := bnd_some e
  obtain ⟨e2, rfl⟩ := opt_some e
  refine ⟨M, r0, ss, rw, y, _, I, e1, fun v H1 k1 I1 hv => ?_⟩
  have fin : ∀ {us : List V} {l : Addr}, H1 l = none → DRAll P.K (hdn (Msk M r0 σ ss) H1) us z → Q (.ref l) (upd H1 l (.lst us)) := fun {us l} hl hd => by
    have s3 : Same H1 (upd H1 l (.lst us)) := upd_same' hl
    refine q l us _ (k1.trans (KeepR.of s3)) (I1.hideS s3 hl (by rw [upd_same]; simp)) (back_none k1 I1 hl) upd_same (drAll_mono (mk_same fun b u n h => ?_) _ _ hd)
    have nb : b ≠ l := ne_of_none h hl
    refine ⟨fun z => ?_, s3 b u h⟩
    rcases z with (z | z) | z | z
    · exact n (.inl z)
    · exact nb z
    · exact n (.inr (.inl z))
    · exact n (.inr (.inr z))
  unfold lstD at e2
  split at e2
  next ds =>
    cases e2
    obtain ⟨p1, vs, rfl, h1, h2⟩ := vr_lst hv
    exact ⟨p1, vs, rfl, .inl (SqL.of (mk_le _ H1 _ _ h1)), fun l hl => fin hl h2⟩
  next ds =>
    cases e2
    obtain ⟨p1, vs, rfl, h1, h2⟩ := vr_tup hv
    exact ⟨p1, vs, rfl, .inr (sqT_mono (mk_le _ H1) h1), fun l hl => fin hl h2⟩
  next => cases e2
end
/-! ### the house's methods -/
section
variable {Pg : Program} {w : World} {K : PySem.W.Frag} {mg : Str → Option Value} {base : Heap} {ns : List Int} {C : Addr} {f : Addr} {fd : FuncData} {st : Stmt}
theorem spL_eq {P : Pm} {F G : List Vl → Option (List PyData)} {k : Nat} {ps : List Str} (h : FnOk Pg w K mg base CX0 k f fd ps (spL P F)) (e : ∀ xs ds, G xs = some ds → F xs = some ds) : FnOk Pg w K mg base CX0 k f fd ps (spL P G) :=
  h.imp fun vs H Q E ⟨S, xs, ds, h1, h2, h3, h4⟩ => ⟨S, xs, ds, h1, h2, e xs ds h3, h4⟩
theorem spP_eq {P : Pm} {F G : List Vl → Option Vl} {k : Nat} {ps : List Str} (h : FnOk Pg w K mg base CX0 k f fd ps (spP P F)) (e : ∀ xs ds, G xs = some ds → F xs = some ds) : FnOk Pg w K mg base CX0 k f fd ps (spP P G) :=
  h.imp fun vs H Q E ⟨S, xs, ds, h1, h2, h3, h4⟩ => ⟨S, xs, ds, h1, h2, e xs ds h3, h4⟩
end
end FL
/-! zip of a list and a tuple: the two iterators told by what they do (Stp), then one turn, the end, the loop's own record. -/
namespace FL
open PySem L2 PyProof.Rows

/-- an iterator of kind I over a sequence of kind S: what a turn of it does -/
structure Stp (I : Heap → Addr → Addr → Nat → Prop) (S : Heap → Addr → Array Value → Prop) : Prop where
  mv : ∀ {h h' : Heap} {p l : Addr} {k : Nat}, I h p l k → (∀ o, h.get? p = some o → h'.get? p = some o) → I h' p l k
  mvS : ∀ {h h' : Heap} {l : Addr} {xs : Array Value}, S h l xs → (∀ o, h.get? l = some o → h'.get? l = some o) → S h' l xs
  obj : ∀ {h : Heap} {p l : Addr} {k : Nat}, I h p l k → ∃ o, h.get? p = some o ∧ ∀ v, o.data ≠ .cell v
  one : ∀ {prog : Program} {w : World} {A : Around} {E : Value → Shared → Prop} {s : Shared} {p l : Addr} {k : Nat} {xs : Array Value} {x : Value} {Q : Value → Shared → Prop}, I s.heap p l k → S s.heap l xs → xs[k]? = some x →
    (∀ h', I h' p l (k + 1) → Heap.SameBut p s.heap h' → Q x { s with heap := h' }) → wpAny (model prog w) A (Builtin.SmallTypes.nextOf (.ref p)) Q E s
  off : ∀ {prog : Program} {w : World} {A : Around} {E : Value → Shared → Prop} {s : Shared} {p l : Addr} {k : Nat} {xs : Array Value} {Q : Value → Shared → Prop}, A.handled = none → I s.heap p l k → S s.heap l xs → xs[k]? = none →
    (∀ h' e, Heap.ExtBut p s.heap h' → (∃ o, h'.get? e = some o ∧ o.cls = .type "StopIteration") → E (.ref e) { s with heap := h' }) → wpAny (model prog w) A (Builtin.SmallTypes.nextOf (.ref p)) Q E s
theorem stp_list : Stp Heap.IsListIter Heap.IsList where
  mv := fun x e => x.at e
  mvS := fun ⟨o, h1, h2⟩ e => ⟨o, e o h1, h2⟩
  obj := fun ⟨o, h1, _, h3⟩ => ⟨o, h1, fun v q => by rw [h3] at q; cases q⟩
  one := fun a b c d => wpAny_nextOf_list_item a b c d
  off := fun a b c d e => wpAny_nextOf_list_end a b c d e
theorem stp_tup : Stp Heap.IsTupleIter Heap.IsTuple where
  mv := fun x e => x.at e
  mvS := fun ⟨o, h1, h2⟩ e => ⟨o, e o h1, h2⟩
  obj := fun ⟨o, h1, _, h3⟩ => ⟨o, h1, fun v q => by rw [h3] at q; cases q⟩
  one := fun a b c d => RZ.nextOf_tuple_item a b c d
  off := fun a b c d e => RZ.nextOf_tuple_end a b c d e
section
variable {prog : Program} {w : World} {A : Around} {E : Value → Shared → Prop} {s : Shared} {I J : Heap → Addr → Addr → Nat → Prop} {S T : Heap → Addr → Array Value → Prop} {zz ti tu j1 j2 m1 m2 : Addr} {k1 k2 : Nat} {xs ys : Array Value} {a b : Value}
/-- what a turn of zip keeps -/
abbrev KpZ (zz tu j1 j2 : Addr) (h h' : Heap) : Prop := ∀ c o, c ≠ zz → c ≠ tu → c ≠ j1 → c ≠ j2 → h.get? c = some o → h'.get? c = some o
theorem zipS_item {x y : Value} {Q : Value → Shared → Prop} (U : Stp I S) (V : Stp J T) (D : ZipApart zz ti tu j1 j2 m1 m2) (gz : IsZip s.heap zz ti tu .none) (gi : IsPair s.heap ti (.ref j1) (.ref j2)) (gu : IsPair s.heap tu a b)
    (h1 : I s.heap j1 m1 k1) (h2 : J s.heap j2 m2 k2) (q1 : S s.heap m1 xs) (q2 : T s.heap m2 ys) (ex : xs[k1]? = some x) (ey : ys[k2]? = some y)
    (fin : ∀ h', IsZip h' zz ti tu (rawInt s.heap.objs.size) → IsPair h' tu x y → I h' j1 m1 (k1 + 1) → J h' j2 m2 (k2 + 1) → IsPair h' s.heap.objs.size x y → h'.objs.size = s.heap.objs.size + 1 → KpZ zz tu j1 j2 s.heap h' → Q (.ref s.heap.objs.size) { s with heap := h' }) :
    wpAny (model prog w) A (Builtin.«zip.__next__» ⟨[.ref zz], []⟩) (fun r s' => ∃ v, r = .done (.ret v) ∧ Q v s') E s := by
  show wpAny _ _ (field (.ref zz) 2 >>= _) _ _ _
  refine wpAny_bind (wpAny_field gz rfl (x := .bool false) rfl ?_)
  show wpAny _ _ (field (.ref zz) 3 >>= _) _ _ _
  refine wpAny_bind (wpAny_field gz rfl (x := .ref ti) rfl (wpAny_bind (wpAny_seqItems gi rfl ?_)))
  show wpAny _ _ (Builtin.SmallTypes.ownedTupleIsFree (.ref zz) >>= _) _ _ _
  refine wpAny_bind ?_; unfold Builtin.SmallTypes.ownedTupleIsFree
  refine wpAny_bind (wpAny_field gz rfl (x := .none) rfl (wpAny_pure ?_)); simp only [if_true]
  refine wpAny_bind (wpAny_rule (wpAny_bind (wpAny_field gz rfl (x := .ref tu) rfl (wpAny_bind (wpAny_setField_rec gz (by simp) fun g1 z1 c1 => ?_)))))
  replace z1 : IsZip g1 zz ti tu .ellipsis := z1
  have o1 : ∀ c o, c ≠ zz → s.heap.get? c = some o → g1.get? c = some o := fun c o n e => c1.extBut c o n e
  refine wpAny_bind ?_
  simp only [List.zipIdx_cons, List.zipIdx_nil, List.forIn_cons, List.forIn_nil]
  -- the first one
  refine wpAny_bind (wpAny_bind (wpAny_onRaise ?_))
  show wpAny _ _ (Builtin.SmallTypes.nextOf (.ref j1) >>= _) _ _ _
  refine wpAny_bind (U.one (U.mv h1 fun o => o1 _ o D.i1z) (U.mvS q1 fun o => o1 _ o D.l1z) ex fun g2 i2 c2 => wpAny_pure ?_)
  have o2 : ∀ c o, c ≠ zz → c ≠ j1 → s.heap.get? c = some o → g2.get? c = some o := fun c o n n' e => c2.extBut c o n' (o1 c o n e)
  have p2 : IsPair g2 tu a b := o2 _ _ D.TOz D.TOi1 gu
  refine wpAny_bind (wpAny_seqItems p2 rfl (wpAny_bind (wpAny_updateSeq_pair p2 fun g3 p3 c3 => wpAny_bind (wpAny_letGo (wpAny_pure ?_)))))
  replace p3 : IsPair g3 tu x b := p3
  have o3 : ∀ c o, c ≠ zz → c ≠ j1 → c ≠ tu → s.heap.get? c = some o → g3.get? c = some o := fun c o n n' n'' e => c3.extBut c o n'' (o2 c o n n' e)
  -- the second one
  refine wpAny_bind (wpAny_bind (wpAny_onRaise ?_))
  show wpAny _ _ (Builtin.SmallTypes.nextOf (.ref j2) >>= _) _ _ _
  refine wpAny_bind (V.one (V.mv h2 fun o => o3 _ o D.i2z D.i12.symm D.TOi2.symm) (V.mvS q2 fun o => o3 _ o D.l2z D.l2i1 D.l2TO) ey fun g4 i4 c4 => wpAny_pure ?_)
  have p4 : IsPair g4 tu x b := c4.extBut _ _ D.TOi2 p3
  refine wpAny_bind (wpAny_seqItems p4 rfl (wpAny_bind (wpAny_updateSeq_pair p4 fun g5 p5 c5 => wpAny_bind (wpAny_letGo (wpAny_pure (wpAny_pure ?_))))))
  replace p5 : IsPair g5 tu x y := p5
  have o5 : ∀ c o, c ≠ zz → c ≠ j1 → c ≠ tu → c ≠ j2 → s.heap.get? c = some o → g5.get? c = some o := fun c o n n' n'' n3 e => c5.extBut c o n'' (c4.extBut c o n3 (o3 c o n n' n'' e))
  have z5 : IsZip g5 zz ti tu .ellipsis := c5.extBut _ _ D.TOz.symm (c4.extBut _ _ D.i2z.symm (c3.extBut _ _ D.TOz.symm (c2.extBut _ _ D.i1z.symm z1)))
  have r1 : I g5 j1 m1 (k1 + 1) := U.mv i2 fun o e => c5.extBut _ o D.TOi1.symm (c4.extBut _ o D.i12 (c3.extBut _ o D.TOi1.symm e))
  have r2 : J g5 j2 m2 (k2 + 1) := V.mv i4 fun o e => c5.extBut _ o D.TOi2.symm e
  have sz : g5.objs.size = s.heap.objs.size := by rw [c5.1, c4.1, c3.1, c2.1, c1.1]
  have zl : zz < g5.objs.size := Heap.lt_size z5
  -- the new pair
  refine wpAny_bind (wpAny_seqItems p5 rfl (wpAny_bind (wpAny_newTuple ?_)))
  show wpAny _ _ (Builtin.SmallTypes.ownedTupleHandOut (.ref zz) (.ref g5.objs.size) >>= _) _ _ _
  refine wpAny_bind ?_
  unfold Builtin.SmallTypes.ownedTupleHandOut
  have z6 : IsZip (g5.push { cls := .type "tuple", data := .seq #[x, y] }) zz ti tu .ellipsis := Heap.get?_push_of_some _ z5
  refine wpAny_bind (wpAny_setField_rec z6 (by simp) fun g7 z7 c7 => ?_)
  replace z7 : IsZip g7 zz ti tu (rawInt g5.objs.size) := z7
  refine wpAny_setField_rec z7 (by simp) fun g8 z8 c8 => ?_
  replace z8 : IsZip g8 zz ti tu (rawInt g5.objs.size) := z8
  have o8 : ∀ c o, c ≠ zz → (g5.push { cls := .type "tuple", data := .seq #[x, y] }).get? c = some o → g8.get? c = some o := fun c o n e => c8.extBut c o n (c7.extBut c o n e)
  have t8 : IsPair g8 g5.objs.size x y := o8 _ _ (Nat.ne_of_gt zl) (Heap.get?_push_size _ rfl)
  have s8 : g8.objs.size = g5.objs.size + 1 := by rw [c8.1, c7.1, Heap.size_push]
  have up : ∀ c o, c ≠ zz → g5.get? c = some o → g8.get? c = some o := fun c o n e => o8 c o n (Heap.get?_push_of_some _ e)
  rw [sz] at z8 t8 s8
  refine wpAny_pure ⟨_, rfl, ?_⟩
  show Q (.ref g5.objs.size) _
  rw [sz]
  exact fin g8 z8 (up _ _ D.TOz p5) (U.mv r1 fun o => up _ o D.i1z) (V.mv r2 fun o => up _ o D.i2z) t8 s8 fun c o n1 n2 n3 n4 e => up c o n1 (o5 c o n1 n3 n2 n4 e)
theorem zipS_off {Q : Fin → Shared → Prop} (U : Stp I S) (V : Stp J T) (hh : A.handled = none) (D : ZipApart zz ti tu j1 j2 m1 m2) (gz : IsZip s.heap zz ti tu .none) (gi : IsPair s.heap ti (.ref j1) (.ref j2)) (gu : IsPair s.heap tu a b)
    (h1 : I s.heap j1 m1 k1) (h2 : J s.heap j2 m2 k2) (q1 : S s.heap m1 xs) (q2 : T s.heap m2 ys) (ee : xs[k1]? = none ∨ ys[k2]? = none)
    (fin : ∀ h' e, KpZ zz tu j1 j2 s.heap h' → (∃ o, h'.get? e = some o ∧ o.cls = .type "StopIteration") → E (.ref e) { s with heap := h' }) :
    wpAny (model prog w) A (Builtin.«zip.__next__» ⟨[.ref zz], []⟩) Q E s := by
  show wpAny _ _ (field (.ref zz) 2 >>= _) _ _ _
  refine wpAny_bind (wpAny_field gz rfl (x := .bool false) rfl ?_)
  show wpAny _ _ (field (.ref zz) 3 >>= _) _ _ _
  refine wpAny_bind (wpAny_field gz rfl (x := .ref ti) rfl (wpAny_bind (wpAny_seqItems gi rfl ?_)))
  show wpAny _ _ (Builtin.SmallTypes.ownedTupleIsFree (.ref zz) >>= _) _ _ _
  refine wpAny_bind ?_; unfold Builtin.SmallTypes.ownedTupleIsFree
  refine wpAny_bind (wpAny_field gz rfl (x := .none) rfl (wpAny_pure ?_)); simp only [if_true]
  refine wpAny_bind (wpAny_rule (wpAny_bind (wpAny_field gz rfl (x := .ref tu) rfl (wpAny_bind (wpAny_setField_rec gz (by simp) fun g1 z1 c1 => ?_)))))
  replace z1 : IsZip g1 zz ti tu .ellipsis := z1
  have o1 : ∀ c o, c ≠ zz → s.heap.get? c = some o → g1.get? c = some o := fun c o n e => c1.extBut c o n e
  refine wpAny_bind ?_
  simp only [List.zipIdx_cons, List.zipIdx_nil, List.forIn_cons, List.forIn_nil]
  refine wpAny_bind (wpAny_bind (wpAny_onRaise ?_))
  show wpAny _ _ (Builtin.SmallTypes.nextOf (.ref j1) >>= _) _ _ _
  cases ex : xs[k1]? with
  | none =>
    refine wpAny_bind (U.off hh (U.mv h1 fun o => o1 _ o D.i1z) (U.mvS q1 fun o => o1 _ o D.l1z) ex fun g2 e c2 he => ?_)
    obtain ⟨oe, ho, hc⟩ := he
    have z2 : IsZip g2 zz ti tu .ellipsis := c2 _ _ D.i1z.symm z1
    have ne : e ≠ zz := fun q => by
      rw [q, z2] at ho
      cases ho
      simp at hc
    exact wpAny_setField_rec z2 (by simp) fun g3 _ c3 => fin g3 e (fun c o n1 _ n3 _ q => c3.extBut _ _ n1 (c2 _ _ n3 (o1 c o n1 q))) ⟨oe, c3.extBut _ _ ne ho, hc⟩
  | some x =>
    have ey : ys[k2]? = none := ee.resolve_left (by rw [ex]; simp)
    refine wpAny_bind (U.one (U.mv h1 fun o => o1 _ o D.i1z) (U.mvS q1 fun o => o1 _ o D.l1z) ex fun g2 i2 c2 => wpAny_pure ?_)
    have o2 : ∀ c o, c ≠ zz → c ≠ j1 → s.heap.get? c = some o → g2.get? c = some o := fun c o n n' e => c2.extBut c o n' (o1 c o n e)
    have p2 : IsPair g2 tu a b := o2 _ _ D.TOz D.TOi1 gu
    refine wpAny_bind (wpAny_seqItems p2 rfl (wpAny_bind (wpAny_updateSeq_pair p2 fun g3 p3 c3 => wpAny_bind (wpAny_letGo (wpAny_pure ?_)))))
    have o3 : ∀ c o, c ≠ zz → c ≠ j1 → c ≠ tu → s.heap.get? c = some o → g3.get? c = some o := fun c o n n' n'' e => c3.extBut c o n'' (o2 c o n n' e)
    refine wpAny_bind (wpAny_bind (wpAny_onRaise ?_))
    show wpAny _ _ (Builtin.SmallTypes.nextOf (.ref j2) >>= _) _ _ _
    refine wpAny_bind (V.off hh (V.mv h2 fun o => o3 _ o D.i2z D.i12.symm D.TOi2.symm) (V.mvS q2 fun o => o3 _ o D.l2z D.l2i1 D.l2TO) ey fun g4 e c4 he => ?_)
    obtain ⟨oe, ho, hc⟩ := he
    have z4 : IsZip g4 zz ti tu .ellipsis := c4 _ _ D.i2z.symm (c3.extBut _ _ D.TOz.symm (c2.extBut _ _ D.i1z.symm z1))
    have ne : e ≠ zz := fun q => by
      rw [q, z4] at ho
      cases ho
      simp at hc
    exact wpAny_setField_rec z4 (by simp) fun g5 _ c5 => fin g5 e (fun c o n1 n2 n3 n4 q => c5.extBut _ _ n1 (c4 _ _ n4 (o3 c o n1 n3 n2 q))) ⟨oe, c5.extBut _ _ ne ho, hc⟩
theorem zipS_next {x y : Value} {Q : Option Value → Shared → Prop} (U : Stp I S) (V : Stp J T) (D : ZipApart zz ti tu j1 j2 m1 m2) (gz : IsZip s.heap zz ti tu .none) (gi : IsPair s.heap ti (.ref j1) (.ref j2)) (gu : IsPair s.heap tu a b)
    (h1 : I s.heap j1 m1 k1) (h2 : J s.heap j2 m2 k2) (q1 : S s.heap m1 xs) (q2 : T s.heap m2 ys) (ex : xs[k1]? = some x) (ey : ys[k2]? = some y)
    (fin : ∀ h', IsZip h' zz ti tu (rawInt s.heap.objs.size) → IsPair h' tu x y → I h' j1 m1 (k1 + 1) → J h' j2 m2 (k2 + 1) → IsPair h' s.heap.objs.size x y → h'.objs.size = s.heap.objs.size + 1 → KpZ zz tu j1 j2 s.heap h' → Q (some (.ref s.heap.objs.size)) { s with heap := h' }) :
    wpAny (model prog w) A (pyNext (.ref zz)) Q E s := by
  have ty : s.TypeIs (.ref zz) "zip" := ⟨_, gz, rfl⟩
  unfold pyNext
  refine wpAny_bind (wpAny_attempt (wpAny_callSpecial?_slot (name := Str.ofString "__next__") ty F.slot_zip_next (wpAny_call_entry F.slot_zip_next ty F.entry_zip_next ?_ (F.args_zip_next_1 _))))
  exact zipS_item U V D gz gi gu h1 h2 q1 q2 ex ey fun h' a1 a2 a3 a4 a5 a6 a7 => wpAny_pure (fin h' a1 a2 a3 a4 a5 a6 a7)
theorem zipS_stop {Q : Option Value → Shared → Prop} (U : Stp I S) (V : Stp J T) (hh : A.handled = none) (D : ZipApart zz ti tu j1 j2 m1 m2) (gz : IsZip s.heap zz ti tu .none) (gi : IsPair s.heap ti (.ref j1) (.ref j2)) (gu : IsPair s.heap tu a b)
    (h1 : I s.heap j1 m1 k1) (h2 : J s.heap j2 m2 k2) (q1 : S s.heap m1 xs) (q2 : T s.heap m2 ys) (ee : xs[k1]? = none ∨ ys[k2]? = none) (fin : ∀ h', KpZ zz tu j1 j2 s.heap h' → Q none { s with heap := h' }) :
    wpAny (model prog w) A (pyNext (.ref zz)) Q E s := by
  have ty : s.TypeIs (.ref zz) "zip" := ⟨_, gz, rfl⟩
  unfold pyNext
  refine wpAny_bind (wpAny_attempt (wpAny_callSpecial?_slot (name := Str.ofString "__next__") ty F.slot_zip_next (wpAny_call_entry F.slot_zip_next ty F.entry_zip_next (zipS_off U V hh D gz gi gu h1 h2 q1 q2 ee fun h' e kp he => ?_) (F.args_zip_next_1 _))))
  obtain ⟨o, ho, hc⟩ := he
  exact wpAny_bind (wpAny_isInstance (T := "StopIteration") (b := true) ⟨o, ho, hc⟩ isSubtype_stop (wpAny_pure (fin _ kp)))
end
/-! ### zip(list, tuple) -/
/-- the list at p, the tuple at q, the items in new pairs -/
def ItLT (K : PySem.W.Frag) (p q : Addr) : It :=
  ⟨fun i H => ∃ (xs ys : List V) (x y : V), SqL K H p xs ∧ SqT K H q ys ∧ xs[i]? = some x ∧ ys[i]? = some y,
    fun i H v H' => ∃ t x y, v = .ref t ∧ H t = none ∧ H' = upd H t (.tup [x, y]) ∧ (∀ xs, SqL K H p xs → xs[i]? = some x) ∧ ∀ ys, SqT K H q ys → ys[i]? = some y,
    fun i H => ∃ xs ys : List V, SqL K H p xs ∧ SqT K H q ys ∧ (xs.length ≤ i ∨ ys.length ≤ i)⟩
theorem five {c zz ti tu j1 j2 : Addr} (h : c ∈ [zz, ti, tu, j1, j2]) : c = zz ∨ c = ti ∨ c = tu ∨ c = j1 ∨ c = j2 := by simpa using h
theorem turn_LT {Pg : Program} {w : World} {K : PySem.W.Frag} {elts : List Expr} {kk : Nat} {tpos : Pos} {p q zz ti tu j1 j2 : Addr} (D : ZipApart zz ti tu j1 j2 p q) :
    Turn Pg w K (.Tuple elts kk tpos) (ItLT K p q) [zz, ti, tu, j1, j2] zz (fun i h => IsZip h zz ti tu .none ∧ IsPair h ti (.ref j1) (.ref j2) ∧ (∃ x y, IsPair h tu x y) ∧ h.IsListIter j1 p i ∧ h.IsTupleIter j2 q i) where
  mem := List.mem_cons_self
  obj := fun i h st c hc => by
    obtain ⟨gz, gi, ⟨x, y, gu⟩, i1, i2⟩ := st
    rcases five hc with rfl | rfl | rfl | rfl | rfl
    · exact ⟨_, gz, fun v z => nomatch z⟩
    · exact ⟨_, gi, fun v z => nomatch z⟩
    · exact ⟨_, gu, fun v z => nomatch z⟩
    · exact stp_list.obj i1
    · exact stp_tup.obj i2
  keep := fun i h h' st k => by
    obtain ⟨gz, gi, ⟨x, y, gu⟩, i1, i2⟩ := st
    exact ⟨k zz (by simp) _ gz, k ti (by simp) _ gi, ⟨x, y, k tu (by simp) _ gu⟩, i1.at fun o e => k j1 (by simp) o e, i2.at fun o e => k j2 (by simp) o e⟩
  item := by
    intro X hP hw hK hc i pins s σ H E I hf st hg
    subst hP hw hK
    obtain ⟨gz, gi, ⟨x0, y0, gu⟩, i1, i2⟩ := st
    obtain ⟨xs, ys, x, y, hqx, hqy, hx, hy⟩ := hg
    obtain ⟨us, rv, pl, _⟩ := I.list hqx
    obtain ⟨vs, rv2, pt, _⟩ := I.tuple hqy
    obtain ⟨u, hu, ru⟩ := rv.get hx
    obtain ⟨u2, hu2, ru2⟩ := rv2.get hy
    have zl : zz < s.heap.objs.size := Heap.lt_size gz
    refine zipS_next stp_list stp_tup D gz gi gu i1 i2 pl.isList (show s.heap.IsTuple q vs.toArray from pt) (x := u) (y := u2) (by simpa using hu) (by simpa using hu2) fun h' z' u' i1' i2' t' sz kp => ?_
    refine ⟨_, rfl, wpAny_letOwnedTupleGo_zip (s := { s with heap := h' }) z' fun h2 z2 sb => ?_⟩
    have t2 : h2.get? s.heap.objs.size = some { cls := .type "tuple", data := .seq #[u, u2] } := (sb.2 _ (Nat.ne_of_gt zl)).trans t'
    have ob : ObjOk X.prog X.w (upd H s.heap.objs.size (.tup [x, y])) h2 s.heap.objs.size (.tup [x, y]) := ⟨by show 2 ≤ sizeLine; decide, [u, u2], .cons ru (.cons ru2 .nil), ⟨_, t2, rfl, _, rfl⟩⟩
    have out : ∀ c, c ∉ [zz, ti, tu, j1, j2] → c ≠ zz ∧ c ≠ tu ∧ c ≠ j1 ∧ c ≠ j2 := fun c hb => ⟨fun e => hb (by simp [e]), fun e => hb (by simp [e]), fun e => hb (by simp [e]), fun e => hb (by simp [e])⟩
    have I1 : Inv X pins σ (upd H s.heap.objs.size (.tup [x, y])) { s with heap := h2 } :=
      I.turnedNew (t' := s.toks) (ch := [zz, ti, tu, j1, j2]) (fun c o hb e => (sb.2 c (out c hb).1).trans (kp c o (out c hb).1 (out c hb).2.1 (out c hb).2.2.1 (out c hb).2.2.2 e)) hf (Nat.le_refl _) ob
    refine ⟨.ref s.heap.objs.size, _, I1, rfl, ⟨_, x, y, rfl, I.hok.fresh (Nat.le_refl _), rfl, fun l hl => by rw [I.list_inj hl hqx]; exact hx, fun l hl => by rw [I.tuple_inj hl hqy]; exact hy⟩, ⟨z2, ?_, ⟨u, u2, ?_⟩, ?_, ?_⟩, fun c hcm => ?_⟩
    · exact (sb.2 _ D.TIz).trans (kp _ _ D.TIz D.TITO D.TIi1 D.TIi2 gi)
    · exact (sb.2 _ D.TOz).trans u'
    · exact i1'.at fun o e => (sb.2 _ D.i1z).trans e
    · exact i2'.at fun o e => (sb.2 _ D.i2z).trans e
    · have lt : c < s.heap.objs.size := by
        rcases five hcm with rfl | rfl | rfl | rfl | rfl
        · exact zl
        · exact Heap.lt_size gi
        · exact Heap.lt_size gu
        · exact Heap.lt_size i1.choose_spec.1
        · exact Heap.lt_size i2.choose_spec.1
      rw [upd_ne (Nat.ne_of_lt lt)]
      exact (hf c hcm).1
  done := by
    intro X hP hw hK hc i pins s σ H E I hf st hg
    subst hP hw hK
    obtain ⟨gz, gi, ⟨x0, y0, gu⟩, i1, i2⟩ := st
    obtain ⟨xs, ys, hqx, hqy, he⟩ := hg
    obtain ⟨us, rv, pl, _⟩ := I.list hqx
    obtain ⟨vs, rv2, pt, _⟩ := I.tuple hqy
    have l1 := rv.length
    have l2 := rv2.length
    have ee : us.toArray[i]? = none ∨ vs.toArray[i]? = none := by
      rcases he with e | e
      · exact .inl (by simp; omega)
      · exact .inr (by simp; omega)
    have out : ∀ c, c ∉ [zz, ti, tu, j1, j2] → c ≠ zz ∧ c ≠ tu ∧ c ≠ j1 ∧ c ≠ j2 := fun c hb => ⟨fun e => hb (by simp [e]), fun e => hb (by simp [e]), fun e => hb (by simp [e]), fun e => hb (by simp [e])⟩
    exact zipS_stop stp_list stp_tup (I.ok.hd hc) D gz gi gu i1 i2 pl.isList (show s.heap.IsTuple q vs.toArray from pt) ee fun h' kp =>
      ⟨rfl, I.turnedL (t' := s.toks) (ch := [zz, ti, tu, j1, j2]) (fun c o hb e => kp c o (out c hb).1 (out c hb).2.1 (out c hb).2.2.1 (out c hb).2.2.2 e) hf⟩
  self := fun A i s Q E st h => wpAny_pyIter_zip st.1 h
end FL
/-! zip(list, tuple): the call, the loop's reading. -/
namespace FL
open PySem L2 PyProof.Rows
abbrev zH1 (h : Heap) (l1 : Addr) : Heap := h.push { cls := .type "list_iterator", data := .fields #[.ref l1, .int 0 0] }
abbrev zH2 (h : Heap) (l1 l2 : Addr) : Heap := (zH1 h l1).push { cls := .type "tuple_iterator", data := .fields #[.ref l2, .int 0 0] }
abbrev zH3 (h : Heap) (l1 l2 : Addr) : Heap := (zH2 h l1 l2).push { cls := .type "tuple", data := .seq #[.ref h.objs.size, .ref (zH1 h l1).objs.size] }
abbrev zH4 (h : Heap) (l1 l2 : Addr) : Heap := (zH3 h l1 l2).push { cls := .type "tuple", data := .seq #[.none, .none] }
abbrev zH5 (h : Heap) (l1 l2 : Addr) : Heap := (zH4 h l1 l2).push { cls := .type "zip", data := .fields #[.none, .bool false, .bool false, .ref (zH2 h l1 l2).objs.size, .ref (zH3 h l1 l2).objs.size] }
theorem meets_zipLT (l1 l2 : Addr) (xs ys : Array Value) :
    Meets (Builtin.«zip.__new__» ⟨[.type "zip", .ref l1, .ref l2], []⟩) (fun _ R s => s.heap.IsList l1 xs ∧ s.heap.IsTuple l2 ys ∧
      R (.ok (.ret (.ref (zH4 s.heap l1 l2).objs.size))) { s with heap := zH5 s.heap l1 l2 }) :=
  .of_wp fun prog w A R s h => by
    obtain ⟨hp, g, d, tk, os⟩ := s; obtain ⟨hl1, hl2, h⟩ := h
    have hsub := sub_zip
    have hL1 : Heap.IsList (Shared.heap ⟨hp, g, d, tk, os⟩) l1 xs := hl1
    have hL2 : Heap.IsTuple (Shared.heap ⟨hp.push { cls := .type "list_iterator", data := .fields #[.ref l1, .int 0 0] }, g, d, tk, os⟩) l2 ys := Heap.IsTuple.push hl2 _
    wp_walk using wpAny_pyIter_list hL1, wpAny_pyIter_tuple hL2
    exact ⟨_, rfl, h⟩
theorem call_zipLT {prog : Program} {w : World} {A : Around} {E : Value → Shared → Prop} {s : Shared} {l1 l2 : Addr} {xs ys : Array Value} {Q : Value → Shared → Prop} (hl1 : s.heap.IsList l1 xs) (hl2 : s.heap.IsTuple l2 ys)
    (h : ∀ h', IsZip h' (s.heap.objs.size + 4) (s.heap.objs.size + 2) (s.heap.objs.size + 3) .none → IsPair h' (s.heap.objs.size + 2) (.ref s.heap.objs.size) (.ref (s.heap.objs.size + 1)) →
      IsPair h' (s.heap.objs.size + 3) .none .none → h'.IsListIter s.heap.objs.size l1 0 → h'.IsTupleIter (s.heap.objs.size + 1) l2 0 → h'.objs.size = s.heap.objs.size + 5 →
      (∀ c o, s.heap.get? c = some o → h'.get? c = some o) → Q (.ref (s.heap.objs.size + 4)) { s with heap := h' }) :
    wpAny (model prog w) A (call (.type "zip") [.ref l1, .ref l2]) Q E s := by
  refine callType_new F.called_zip (by decide) (F.typeCall_zip_2 _ _) (F.newCall_zip_2 _ _) (fun obj => F.args_object_init_3 obj _ _) F.entry_zip_new
    (meets_zipLT l1 l2 xs ys) ⟨hl1, hl2, ?_⟩
  have z1 : (zH1 s.heap l1).objs.size = s.heap.objs.size + 1 := Heap.size_push ..
  have z2 : (zH2 s.heap l1 l2).objs.size = s.heap.objs.size + 2 := by rw [Heap.size_push, z1]
  have z3 : (zH3 s.heap l1 l2).objs.size = s.heap.objs.size + 3 := by rw [Heap.size_push, z2]
  have z4 : (zH4 s.heap l1 l2).objs.size = s.heap.objs.size + 4 := by rw [Heap.size_push, z3]
  have z5 : (zH5 s.heap l1 l2).objs.size = s.heap.objs.size + 5 := by rw [Heap.size_push, z4]
  have g5 : (zH5 s.heap l1 l2).get? (zH4 s.heap l1 l2).objs.size = some _ := Heap.get?_push_size _ rfl
  have g4 : (zH5 s.heap l1 l2).get? (zH3 s.heap l1 l2).objs.size = some _ := Heap.get?_push_of_some _ (Heap.get?_push_size _ rfl)
  have g3 : (zH5 s.heap l1 l2).get? (zH2 s.heap l1 l2).objs.size = some _ := Heap.get?_push_of_some _ (Heap.get?_push_of_some _ (Heap.get?_push_size _ rfl))
  have g2 : (zH5 s.heap l1 l2).get? (zH1 s.heap l1).objs.size = some _ := Heap.get?_push_of_some _ (Heap.get?_push_of_some _ (Heap.get?_push_of_some _ (Heap.get?_push_size _ rfl)))
  have g1 : (zH5 s.heap l1 l2).get? s.heap.objs.size = some _ := Heap.get?_push_of_some _ (Heap.get?_push_of_some _ (Heap.get?_push_of_some _ (Heap.get?_push_of_some _ (Heap.get?_push_size _ rfl))))
  show _ ∧ _
  rw [z2, z3, z4] at g5
  rw [z1, z2] at g3
  rw [z3] at g4
  rw [z1] at g2
  rw [z4]
  exact ⟨⟨_, g5, rfl⟩, h _ g5 g3 g4 ⟨_, g1, rfl, rfl⟩ ⟨_, g2, rfl, rfl⟩ z5 fun c o x =>
    Heap.get?_push_of_some _ (Heap.get?_push_of_some _ (Heap.get?_push_of_some _ (Heap.get?_push_of_some _ (Heap.get?_push_of_some _ x))))⟩
def iZipLT (K : PySem.W.Frag) (ta : TA) : TI := fun σ H R => ta σ H fun vs H1 => ∃ a b xs ys, vs = [.ref a, .ref b] ∧ SqL K H1 a xs ∧ SqT K H1 b ys ∧ R (ItLT K a b) H1
theorem pi_zipLT {X : Cx} {e e2 : Expr} {ta : TA} {p pos tpos : Pos} {elts : List Expr} {kk : Nat} (hg : Gl X "zip") (hm : X.mg "zip" = none) (ha : PA X [e, e2] ta)
    (hs : starEach [e, e2] X.env = (false, eval e X.env) :: starEach [e2] X.env := by rfl) (hpl : (backTo pos (starEach [e2] X.env)).any (·.1) = false := by rfl) :
    PI X (.Tuple elts kk tpos) (.Call (.Name "zip" p) [e, e2] [] pos) (iZipLT X.K ta) := by
  refine ⟨fun pins s σ H R I h => ?_⟩
  refine Call_ (ld_blt I hg hm PyProof.Rows.boot_zip (PyProof.Rows.callWith_type1 (thn (ha.run pos pins s σ H _ I h) fun us s1 ⟨vs, H1, I1, r1, q1⟩ => ?_) hs hpl))
  obtain ⟨a, b, xs, ys, ex, hqx, hqy, q⟩ := q1
  subst ex
  cases r1 with
  | cons r rr =>
    cases rr with
    | cons r' rr =>
      cases rr
      cases r
      cases r'
      have fresh5 : ∀ c, c ∈ [s1.heap.objs.size + 4, s1.heap.objs.size + 2, s1.heap.objs.size + 3, s1.heap.objs.size, s1.heap.objs.size + 1] → FpOk X pins H1 c := fun c hcm => by
        have e' : c = s1.heap.objs.size + 4 ∨ c = s1.heap.objs.size + 2 ∨ c = s1.heap.objs.size + 3 ∨ c = s1.heap.objs.size ∨ c = s1.heap.objs.size + 1 := by simpa using hcm
        have hle : s1.heap.objs.size ≤ c := by
          rcases e' with z | z | z | z | z
          · rw [z]; exact Nat.le_add_right _ _
          · rw [z]; exact Nat.le_add_right _ _
          · rw [z]; exact Nat.le_add_right _ _
          · rw [z]; exact Nat.le_refl _
          · rw [z]; exact Nat.le_add_right _ _
        exact I1.fpOk hle (I1.hok.fresh hle)
      obtain ⟨its, rv, p1, _⟩ := I1.list hqx
      obtain ⟨its2, rv2, p2, _⟩ := I1.tuple hqy
      obtain ⟨o2, ho2, _⟩ := id p2
      refine call_zipLT p1.isList (show s1.heap.IsTuple b its2.toArray from p2) fun h' hz hTI hTO h1 h2 hsz hk => wpAny_pyIter_zip hz ?_
      have I2 : Inv X pins σ H1 { s1 with heap := h' } := I1.kept (t' := s1.toks) hk
      exact ⟨s1.heap.objs.size + 4, [s1.heap.objs.size + 4, s1.heap.objs.size + 2, s1.heap.objs.size + 3, s1.heap.objs.size, s1.heap.objs.size + 1], _, _, H1, rfl, I2, turn_LT (PySem.W.ktu_apart s1.heap.objs.size a b p1.lt (Heap.lt_size ho2)), ⟨hz, hTI, ⟨_, _, hTO⟩, h1, h2⟩, fresh5, q⟩
theorem walk_zipLT {K : PySem.W.Frag} {p q : Addr} {xs ys : List V} {n : Nat} (hn : n = min xs.length ys.length) : Walk (ItLT K p q) n (fun H => SqL K H p xs ∧ SqT K H q ys) (YPair (fun i => xs[i]?) (fun i => ys[i]?)) := by
  subst hn
  refine ⟨fun i _ hi g => ?_, fun _ g => ⟨xs, ys, g.1, g.2, by omega⟩, fun i H v H' _ g y => ?_⟩
  · have h1 : i < xs.length := by omega
    have h2 : i < ys.length := by omega
    exact ⟨xs, ys, xs[i], ys[i], g.1, g.2, by simp [h1], by simp [h2]⟩
  · obtain ⟨T, x, z, h1, h2, h3, h4, h5⟩ := y
    exact ⟨T, x, z, h1, h2, h3, h4 xs g.1, h5 ys g.2⟩
def mZq (fa fb : Mx Vl) : Mx (List PyData) := bnd fa fun x => bnd fb fun y => opt (match x, y with
  | .dat (.list ds), .dat (.tuple es) => some (zpD ds es)
  | _, _ => none)
theorem fi_zipLT {P : Pm} {X : Cx} {a b : Expr} {fa fb : Mx Vl} {p pos tpos : Pos} {elts : List Expr} {kk : Nat} (ha : FE X P a fa) (hb : FE X P b fb) (hm : X.mg "zip" = none) (hK : X.K = P.K := by rfl) (hg : Gl X "zip" := by rfl)
    (hs : starEach [a, b] X.env = (false, eval a X.env) :: starEach [b] X.env := by rfl) (hs2 : starEach [b] X.env = (false, eval b X.env) :: starEach [] X.env := by rfl) (hpl : (backTo pos (starEach [b] X.env)).any (·.1) = false := by rfl) :
    FI X P (.Tuple elts kk tpos) (.Call (.Name "zip" p) [a, b] [] pos) (mZq fa fb) := by
  refine PI.imp (pi_zipLT hg hm (pa_cons ha (pa_cons hb pa_nil hs2) hs) hs hpl) ?_
  rw [hK]
  rintro σ H R ⟨M, r0, ss, rw, xs, rw', I, e, q⟩
  obtain ⟨y, rw1, e1, e⟩ := bnd_some e
  obtain ⟨z, rw2, e3, e⟩ := bnd_some e
  obtain ⟨e2, rfl⟩ := opt_some e
  refine ⟨M, r0, ss, rw, _, _, I, e1, fun v H1 k1 I1 hv => ⟨M, r0, ss, _, _, _, I1, e3, fun u H2 k2 I2 hu => ?_⟩⟩
  have hv2 := VR.mono k2.msk hv
  split at e2
  next ds es =>
    cases e2
    obtain ⟨p1, vs, rfl, h1, h2⟩ := vr_lst hv2
    obtain ⟨p2, us, rfl, g1, g2⟩ := vr_tup hu
    refine ⟨p1, p2, vs, us, rfl, SqL.of (mk_le _ H2 _ _ h1), sqT_mono (mk_le _ H2) g1, q _ H2 (k1.trans k2) I2 ?_⟩
    exact wlk_pair (walk_zipLT rfl) rfl (fun S1 H3 s => ⟨SqL.of (mk_le _ H3 _ _ (s _ _ h1)), sqT_mono (mk_le _ H3) (sqT_mono s g1)⟩) h2 g2
  next => cases e2
end FL
/-! Comprehensions with two fors. -/
namespace FL
open PySem L2
section
variable {J : It} {n : Nat} {G : Hp → Prop} {Y : Nat → Hp → V → Hp → Prop}
theorem lc_it0 (w : Walk J n G Y) {g : TG} {tt : TT} {te : TE} {vs : List Nat} {σ : St} {H1 : Hp} {D : Addr} {Qd : Hp → Prop} (Pv : Nat → Hp → Prop) (h0 : Pv 0 H1) (hG : ∀ i H, i ≤ n → Pv i H → G H)
    (hs : ∀ i x H H', i < n → Pv i H → Y i H x H' → g x (wipe σ vs) H' fun σ2 H2 => wipe σ2 vs = wipe σ vs ∧ tt σ2 H2 fun b H3 =>
      if b = true then te σ2 H3 fun y H4 => ∃ acc, H4 D = some (.lst acc) ∧ acc.length < sizeLine ∧ Pv (i + 1) (upd H4 D (.lst (acc ++ [y]))) else Pv (i + 1) H3) (hd : ∀ H, Pv n H → Qd H) :
    ∃ W : Nat → Nat → Hp → Prop, (∃ m, W 0 m H1) ∧ ∀ i m H, W i m H →
      (J.stop i H ∧ Qd H) ∨ (J.go i H ∧ ∃ Nx : Hp → Prop, (∀ H', Nx H' → ∃ m', m' < m ∧ W (i + 1) m' H') ∧ ∀ x H', J.yld i H x H' → g x (wipe σ vs) H' fun σ2 H2 => wipe σ2 vs = wipe σ vs ∧ tt σ2 H2 fun b H3 =>
        if b = true then te σ2 H3 fun y H4 => ∃ acc, H4 D = some (.lst acc) ∧ acc.length < sizeLine ∧ Nx (upd H4 D (.lst (acc ++ [y]))) else Nx H3) := by
  refine ⟨fun i m H => m = n - i ∧ i ≤ n ∧ Pv i H, ⟨n, by simp, Nat.zero_le _, h0⟩, ?_⟩
  rintro i m H ⟨rfl, hi, p⟩
  have q := hG i H hi p
  by_cases hlt : i < n
  · refine .inr ⟨w.goes i H hlt q, Pv (i + 1), fun H' p' => ⟨n - (i + 1), by omega, rfl, hlt, p'⟩, fun x H' y => hs i x H H' hlt p (w.yields i H x H' hlt q y)⟩
  · have e : i = n := by omega
    subst e
    exact .inl ⟨w.stops H q, hd H p⟩
end
section
variable {P : Pm} {g : PyData → List Sl → Option (List Sl)} {tt : Mx Bool} {te : Mx Vl} {t : TG} {vs : List Nat}
/-- the second for's own turns, D growing -/
theorem lc_in (hg : GOk P t g vs) {M : Addr → Prop} {r : Option Addr} {σ : St} {ss : List Sl} {H1 : Hp} {D : Addr} {us0 : List V} {acc0 xs ds : List PyData} {rw1 rw' : Ro} {J : It} (I1 : ER P M r σ H1 ss rw1) (hM : M D) (hn : noOwn ss vs = true)
    (wk : Wlk P (Msk M r σ ss) H1 J xs) (hus0 : H1 D = some (.lst us0)) (dr0 : DRAll P.K (hdn (Msk M r σ ss) H1) us0 acc0) (hl : acc0.length + xs.length ≤ 100000) (e : lcGo g tt te (wipeS ss vs) xs rw1 = some (ds, rw')) {Nx : Hp → Prop}
    (q : ∀ us H2, (∀ b o, H1 b = some o → r ≠ some b → b ≠ D → H2 b = some o) → ER P M r σ H2 ss rw' → H2 D = some (.lst us) → DRAll P.K (hdn (Msk M r σ ss) H2) us (acc0 ++ ds) → Nx H2) :
    ∃ W : Nat → Nat → Hp → Prop, (∃ m, W 0 m H1) ∧ ∀ i m H, W i m H →
      (J.stop i H ∧ Nx H) ∨ (J.go i H ∧ ∃ Nx1 : Hp → Prop, (∀ H', Nx1 H' → ∃ m', m' < m ∧ W (i + 1) m' H') ∧ ∀ x H', J.yld i H x H' → t x (wipe σ vs) H' fun σ2 H2 => wipe σ2 vs = wipe σ vs ∧ tT P tt σ2 H2 fun b H3 =>
        if b = true then tE P te σ2 H3 fun y H4 => ∃ acc, H4 D = some (.lst acc) ∧ acc.length < sizeLine ∧ Nx1 (upd H4 D (.lst (acc ++ [y]))) else Nx1 H3) := by
  have rD : r ≠ some D := fun z => (I1.rk D z).1 hM
  have IM : ER P M r (wipe σ vs) H1 (wipeS ss vs) rw1 := I1.wipe vs
  have sub0 : ∀ a, Msk M r σ ss a → Msk M r (wipe σ vs) (wipeS ss vs) a := fun a z => by
    rcases z with z | z | z
    · exact .inl z
    · exact .inr (.inl z)
    · exact .inr (.inr (own_unwipe hn z))
  have sub1 : ∀ a, Msk M r (wipe σ vs) (wipeS ss vs) a → Msk M r σ ss a := fun a z => by
    rcases z with z | z | z
    · exact .inl z
    · exact .inr (.inl z)
    · exact .inr (.inr (own_wipe z))
  let Kp : Hp → Prop := fun H2 => ∀ b o, H1 b = some o → r ≠ some b → b ≠ D → H2 b = some o
  let Pv : Nat → Hp → Prop := fun i H2 => ∃ (acc : List PyData) (us : List V) (ys : List PyData) (rw2 : Ro), H2 D = some (.lst us) ∧ acc.length ≤ i ∧ ER P M r (wipe σ vs) H2 (wipeS ss vs) rw2 ∧
    DRAll P.K (hdn (Msk M r (wipe σ vs) (wipeS ss vs)) H2) us (acc0 ++ acc) ∧ lcGo g tt te (wipeS ss vs) (xs.drop i) rw2 = some (ys, rw') ∧ ds = acc ++ ys ∧ Kp H2
  have ms : ∀ {H2 : Hp}, Kp H2 → Same (hdn (Msk M r σ ss) H1) (hdn (Msk M r σ ss) H2) := fun {H2} k => mk_same fun b o n h => ⟨n, k b o h (fun z => n (.inr (.inl z))) fun z => n (.inl (by rw [z]; exact hM))⟩
  have W : Walk J xs.length (fun H2 => Kp H2 ∧ ∀ a, Msk M r σ ss a → H2 a ≠ none) (fun i H2 x H3 => Same H2 H3 ∧ ∃ d, xs[i]? = some d ∧ ∀ S1, Same (hdn (Msk M r σ ss) H1) (hdn S1 H2) → (∀ a, S1 a → H2 a ≠ none) → DR P.K (hdn S1 H3) x d) := by
    refine ⟨fun i H2 hi h => ((wk _ H2 (ms h.1) h.2).1 i hi).1, fun H2 h => (wk _ H2 (ms h.1) h.2).2, fun i H2 x H3 hi h y => ?_⟩
    obtain ⟨s, d, h1, h2⟩ := ((wk _ H2 (ms h.1) h.2).1 i hi).2 x H3 y
    refine ⟨s, d, h1, fun S1 s1 a1 => ?_⟩
    obtain ⟨_, d', h1', h2'⟩ := ((wk S1 H2 s1 a1).1 i hi).2 x H3 y
    rw [h1] at h1'
    cases h1'
    exact h2'
  refine lc_it0 W Pv ⟨[], us0, ds, rw1, hus0, Nat.le_refl _, IM, by rw [List.append_nil]; exact drAll_mono (mk_sub sub1) _ _ dr0, e, rfl, fun _ _ h _ _ => h⟩ (fun i H2 _ p => by
    obtain ⟨acc, us, ys, rw2, _, _, I2, _, _, _, k⟩ := p
    exact ⟨k, fun a z => I2.alloc a (sub0 a z)⟩) ?_ ?_
  · rintro i x H2 H3 hi ⟨acc, us, ys, rw2, hus, hacc, I2, dr, e2, eds, k2⟩ ⟨s3, d, hd, hx⟩
    have sub : Same (hdn (Msk M r σ ss) H1) (hdn (Msk M r (wipe σ vs) (wipeS ss vs)) H2) := mk_same fun b o n h =>
      ⟨fun z => n (sub1 b z), k2 b o h (fun z => n (.inr (.inl z))) fun z => n (.inl (by rw [z]; exact hM))⟩
    have hx' := hx _ sub I2.alloc
    have I3 := I2.grow s3
    rw [List.drop_eq_getElem_cons hi] at e2
    have ed : xs[i] = d := by
      rw [List.getElem?_eq_getElem hi] at hd
      exact Option.some.inj hd
    rw [ed] at e2
    unfold lcGo at e2
    split at e2
    next => cases e2
    next ss1 g1 =>
      refine hg M r (wipe σ vs) H3 (wipeS ss vs) rw2 x d ss1 _ I3 hx' g1 fun σ1 o1 J1 w1 => ⟨wipe_same o1, ?_⟩
      have subw : ∀ a, Msk M r (wipe σ vs) (wipeS ss vs) a → Msk M r σ1 ss1 a := fun a z => by
        rcases z with z | z | z
        · exact .inl z
        · exact .inr (.inl z)
        · obtain ⟨j, es, z1, z2⟩ := z
          have hj : j ∉ vs := fun y => by
            rw [wipeS_at, if_pos y] at z1
            cases q : ss[j]? with
            | none => rw [q] at z1; cases z1
            | some t => rw [q] at z1; cases z1
          exact .inr (.inr ⟨j, es, by rw [(o1.2.2 j hj).2]; exact z1, by rw [(o1.2.2 j hj).1]; exact z2⟩)
      have backI : ∀ {H4 : Hp} {rw4 : Ro}, KeepR r H3 H4 → ER P M r σ1 H4 ss1 rw4 → ER P M r (wipe σ vs) H4 (wipeS ss vs) rw4 := fun {H4 rw4} k4 I4 => by
        refine I3.back (fun b o e n _ => k4 b o e n) (k4.live I3) fun a h => ?_
        obtain ⟨_, sa, h1, h2⟩ := I4.rk a h
        exact ⟨sa, h1, (mk_sub subw).seq h2⟩
      split at e2
      next => cases e2
      next rw5 t1 =>
        refine ⟨M, r, ss1, rw2, true, rw5, J1, t1, fun H4 k4 I4 => ?_⟩
        refine L2.iteT ?_
        split at e2
        next y rw6 t2 =>
          split at e2
          next zs rw7 t3 =>
            cases e2
            refine ⟨M, r, ss1, rw5, _, rw6, I4, t2, fun v H5 k5 I5 hv => ?_⟩
            have hD3 := s3 D _ hus
            have hD5 : H5 D = some (.lst us) := k5 D _ (k4 D _ hD3 rD) rD
            refine ⟨us, hD5, ?_, ?_⟩
            · rw [DRAll.length dr, List.length_append]
              exact sz_lt (by omega)
            · have I6 := backI (k4.trans k5) I5
              have I7 : ER P M r (wipe σ vs) (upd H5 D (.lst (us ++ [v]))) (wipeS ss vs) rw6 := I6.hid hM
              have sH : Same (hdn (Msk M r (wipe σ vs) (wipeS ss vs)) H5) (hdn (Msk M r (wipe σ vs) (wipeS ss vs)) (upd H5 D (.lst (us ++ [v])))) := mk_same fun b o n h => by
                have nb : b ≠ D := fun z => n (.inl (by rw [z]; exact hM))
                exact ⟨n, by rw [upd_ne nb]; exact h⟩
              have c5 : Same (hdn (Msk M r (wipe σ vs) (wipeS ss vs)) H2) (hdn (Msk M r (wipe σ vs) (wipeS ss vs)) H5) := KeepR.msk (((KeepR.of s3).trans k4).trans k5)
              refine ⟨acc ++ [y], us ++ [v], zs, rw6, upd_same, by rw [List.length_append]; simp; omega, I7, ?_, t3, by rw [eds]; simp, ?_⟩
              · rw [← List.append_assoc]
                refine DRAll.append (drAll_mono sH _ _ (drAll_mono c5 _ _ dr)) (.cons ?_ .nil)
                refine dr_mono sH _ _ ?_
                have hv' : DR P.K (hdn (Msk M r σ1 ss1) H5) v y := hv
                exact dr_mono (mk_sub subw) _ _ hv'
              · intro b o hb hr nb
                rw [upd_ne nb]
                exact k5 b o (k4 b o (s3 b o (k2 b o hb hr nb)) hr) hr
          next => cases e2
        next => cases e2
      next rw5 t1 =>
        refine ⟨M, r, ss1, rw2, false, rw5, J1, t1, fun H4 k4 I4 => ?_⟩
        refine L2.iteF ?_
        have hD3 := s3 D _ hus
        have c4 : Same (hdn (Msk M r (wipe σ vs) (wipeS ss vs)) H2) (hdn (Msk M r (wipe σ vs) (wipeS ss vs)) H4) := KeepR.msk ((KeepR.of s3).trans k4)
        exact ⟨acc, us, ys, rw5, k4 D _ hD3 rD, by omega, backI k4 I4, drAll_mono c4 _ _ dr, e2, eds, fun b o hb hr nb => k4 b o (s3 b o (k2 b o hb hr nb)) hr⟩
  · rintro H2 ⟨acc, us, ys, rw2, hus, hacc, I2, dr, e2, eds, k2⟩
    rw [List.drop_length] at e2
    unfold lcGo at e2
    cases e2
    rw [List.append_nil] at eds
    subst eds
    refine q us H2 k2 ?_ hus (drAll_mono (mk_sub sub0) _ _ dr)
    refine I1.back (fun b o hb n nm => k2 b o hb n fun z => nm (by rw [z]; exact hM)) I2.m0 fun a h => ?_
    obtain ⟨_, sa, h1, h2⟩ := I2.rk a h
    exact ⟨sa, h1, (mk_sub sub0).seq h2⟩
end
/-- the turns of a comprehension with two fors; n: how many items there may be yet -/
def lcGo2 (g : PyData → List Sl → Option (List Sl)) (mi1 : Mx (List PyData)) (vs1 : List Nat) (g1 : PyData → List Sl → Option (List Sl)) (tt1 : Mx Bool) (te : Mx Vl) (ss : List Sl) : List PyData → Nat → Ro → Option (List PyData × Ro)
  | [], _, rw => some ([], rw)
  | x :: xs, n, rw => match g x ss with
    | none => none
    | some ss1 => if noOwn ss1 vs1 = true then (match mi1 ss1 rw with
      | none => none
      | some (us, rw1) => if us.length ≤ n then (match lcGo g1 tt1 te (wipeS ss1 vs1) us rw1 with
        | none => none
        | some (ys, rw2) => (match lcGo2 g mi1 vs1 g1 tt1 te ss xs (n - us.length) rw2 with
          | some (zs, rw3) => some (ys ++ zs, rw3)
          | none => none)) else none) else none
def mLc2 (vs : List Nat) (mi : Mx (List PyData)) (g : PyData → List Sl → Option (List Sl)) (mi1 : Mx (List PyData)) (vs1 : List Nat) (g1 : PyData → List Sl → Option (List Sl)) (tt1 : Mx Bool) (te : Mx Vl) : Mx (List PyData) := fun ss rw => if noOwn ss vs = true then
    (match mi ss rw with
    | some (xs, rw1) => lcGo2 g mi1 vs1 g1 tt1 te (wipeS ss vs) xs 100000 rw1
    | none => none)
  else none
section
variable {P : Pm} {mi mi1 : Mx (List PyData)} {g g1 : PyData → List Sl → Option (List Sl)} {tt1 : Mx Bool} {te : Mx Vl} {t t1 : TG} {vs vs1 : List Nat}
theorem tL_lc2 (hg : GOk P t g vs) (hg1 : GOk P t1 g1 vs1) : ∀ σ H Q, tL P (mLc2 vs mi g mi1 vs1 g1 tt1 te) σ H Q → tLc2 (tI P mi) t (tT P mYes) (tI P mi1) t1 (tT P tt1) (tE P te) vs vs1 σ H Q := by
  rintro σ H Q ⟨M, r, ss, rw, ds, rw', I, e, q⟩
  unfold mLc2 at e
  split at e
  next hn =>
    split at e
    next xs rw1 e1 =>
      refine ⟨M, r, ss, rw, xs, rw1, I, e1, fun J H1 k1 I1 wk => fun D hD => ?_⟩
      have hD0 : H D = none := by
        cases z : H D with
        | none => rfl
        | some o =>
          by_cases hr : r = some D
          · obtain ⟨_, sa, e, _⟩ := I1.rk D hr
            rw [hD] at e; cases e
          · rw [k1 D o z hr] at hD; cases hD
      let M' : Addr → Prop := fun a => M a ∨ a = D
      have IM : ER P M' r (wipe σ vs) (upd H1 D (.lst [])) (wipeS ss vs) rw1 := (I1.hide hD).wipe vs
      let Pv : Nat → Hp → Prop := fun i H2 => ∃ (acc : List PyData) (us : List V) (ys : List PyData) (n : Nat) (rw2 : Ro), H2 D = some (.lst us) ∧ acc.length + n ≤ 100000 ∧ ER P M' r (wipe σ vs) H2 (wipeS ss vs) rw2 ∧
        DRAll P.K (hdn (Msk M' r (wipe σ vs) (wipeS ss vs)) H2) us acc ∧ lcGo2 g mi1 vs1 g1 tt1 te (wipeS ss vs) (xs.drop i) n rw2 = some (ys, rw') ∧ ds = acc ++ ys ∧ KeepR r H1 H2
      have al : ∀ {H2 : Hp}, KeepR r H1 H2 → (∀ a, r = some a → H2 a ≠ none) → ∀ a, Msk M r σ ss a → H2 a ≠ none := fun {H2} k hr a z => by
        by_cases hra : r = some a
        · exact hr a hra
        · have z1 := I1.alloc a z
          cases y : H1 a with
          | none => exact absurd y z1
          | some o => rw [k a o y hra]; simp
      have W : Walk J xs.length (fun H2 => KeepR r H1 H2 ∧ ∀ a, r = some a → H2 a ≠ none) (fun i H2 x H3 => Same H2 H3 ∧ ∃ d, xs[i]? = some d ∧ ∀ S1, Same (hdn (Msk M r σ ss) H1) (hdn S1 H2) → (∀ a, S1 a → H2 a ≠ none) → DR P.K (hdn S1 H3) x d) := by
        refine ⟨fun i H2 hi h => ((wk _ H2 h.1.msk (al h.1 h.2)).1 i hi).1, fun H2 h => (wk _ H2 h.1.msk (al h.1 h.2)).2, fun i H2 x H3 hi h y => ?_⟩
        obtain ⟨s, d, h1, h2⟩ := ((wk _ H2 h.1.msk (al h.1 h.2)).1 i hi).2 x H3 y
        refine ⟨s, d, h1, fun S1 s1 a1 => ?_⟩
        obtain ⟨_, d', h1', h2'⟩ := ((wk S1 H2 s1 a1).1 i hi).2 x H3 y
        rw [h1] at h1'
        cases h1'
        exact h2'
      have w0 : Pv 0 (upd H1 D (.lst [])) := ⟨[], [], ds, 100000, rw1, upd_same, Nat.le_refl _, IM, .nil, e, rfl, KeepR.of (upd_same' hD)⟩
      refine ⟨fun i m H => m = xs.length - i ∧ i ≤ xs.length ∧ Pv i H, ⟨xs.length, rfl, Nat.zero_le _, w0⟩, ?_⟩
      rintro i m H2 ⟨rfl, hi0, p⟩
      obtain ⟨acc, us, ys, n, rw2, hus, hacc, I2, dr, e2, eds, k2⟩ := p
      have g2 : KeepR r H1 H2 ∧ ∀ a, r = some a → H2 a ≠ none := ⟨k2, fun a h => by obtain ⟨_, sa, e, _⟩ := I2.rk a h; rw [e]; simp⟩
      by_cases hi : i < xs.length
      · refine .inr ⟨W.goes i H2 hi g2, Pv (i + 1), fun H' p' => ⟨xs.length - (i + 1), by omega, rfl, hi, p'⟩, fun x H3 y => ?_⟩
        obtain ⟨s3, d, hd, hx⟩ := W.yields i H2 x H3 hi g2 y
        have sub : Same (hdn (Msk M r σ ss) H1) (hdn (Msk M' r (wipe σ vs) (wipeS ss vs)) H2) := mk_same fun b o n h => by
          have nb : b ≠ D := ne_of_none h hD
          refine ⟨fun z => ?_, k2 b o h fun z => n (.inr (.inl z))⟩
          rcases z with (z | z) | z | z
          · exact n (.inl z)
          · exact nb z
          · exact n (.inr (.inl z))
          · exact n (.inr (.inr (own_wipe z)))
        have hx' := hx _ sub I2.alloc
        have I3 := I2.grow s3
        rw [List.drop_eq_getElem_cons hi] at e2
        have ed : xs[i] = d := by
          rw [List.getElem?_eq_getElem hi] at hd
          exact Option.some.inj hd
        rw [ed] at e2
        unfold lcGo2 at e2
        split at e2
        next => cases e2
        next ss1 gq =>
          split at e2
          next hn1 =>
            split at e2
            next => cases e2
            next us1 rw3 e3 =>
              split at e2
              next hle =>
                split at e2
                next => cases e2
                next ys1 rw4 e4 =>
                  split at e2
                  next zs rw5 e5 =>
                    cases e2
                    have rD : r ≠ some D := fun z => (I2.rk D z).1 (.inr rfl)
                    refine hg M' r (wipe σ vs) H3 (wipeS ss vs) rw2 x d ss1 _ I3 hx' gq fun σ1 o1 J1 w1 => ⟨wipe_same o1, ?_⟩
                    have subw : ∀ a, Msk M' r (wipe σ vs) (wipeS ss vs) a → Msk M' r σ1 ss1 a := fun a z => by
                      rcases z with z | z | z
                      · exact .inl z
                      · exact .inr (.inl z)
                      · obtain ⟨j, es, z1, z2⟩ := z
                        have hj : j ∉ vs := fun y => by
                          rw [wipeS_at, if_pos y] at z1
                          cases q : ss[j]? with
                          | none => rw [q] at z1; cases z1
                          | some t => rw [q] at z1; cases z1
                        exact .inr (.inr ⟨j, es, by rw [(o1.2.2 j hj).2]; exact z1, by rw [(o1.2.2 j hj).1]; exact z2⟩)
                    have subw' : ∀ a, Msk M' r σ1 ss1 a → Msk M' r (wipe σ vs) (wipeS ss vs) a := fun a z => by
                      rcases z with z | z | z
                      · exact .inl z
                      · exact .inr (.inl z)
                      · exact .inr (.inr (w1 a z))
                    refine ⟨M', r, ss1, rw2, true, rw2, J1, rfl, fun H4 k4 I4 => ?_⟩
                    refine L2.iteT ?_
                    refine ⟨M', r, ss1, rw2, us1, rw3, I4, e3, fun J2 H5 k5 I5 wk5 => ?_⟩
                    have hD3 := s3 D _ hus
                    have hD5 : H5 D = some (.lst us) := k5 D _ (k4 D _ hD3 rD) rD
                    have c5 : Same (hdn (Msk M' r (wipe σ vs) (wipeS ss vs)) H2) (hdn (Msk M' r (wipe σ vs) (wipeS ss vs)) H5) := KeepR.msk (((KeepR.of s3).trans k4).trans k5)
                    refine lc_in hg1 I5 (.inr rfl) hn1 wk5 hD5 (drAll_mono (mk_sub subw') _ _ (drAll_mono c5 _ _ dr)) (by omega) e4 fun us2 H6 k6 I6 hD6 dr6 => ?_
                    have k36 : ∀ b o, H3 b = some o → r ≠ some b → b ≠ D → H6 b = some o := fun b o h1 h2 h3 => k6 b o (k5 b o (k4 b o h1 h2) h2) h2 h3
                    have hlen := lcGo_len e4
                    refine ⟨acc ++ ys1, us2, zs, n - us1.length, rw4, hD6, by rw [List.length_append]; omega, ?_, drAll_mono (mk_sub subw) _ _ dr6, e5, by rw [eds]; simp, fun b o hb hr => k36 b o (s3 b o (k2 b o hb hr)) hr (ne_of_none hb hD)⟩
                    refine I3.back (fun b o e n nm => k36 b o e n fun z => nm (.inr z)) I6.m0 fun a h => ?_
                    obtain ⟨_, sa, h1, h2⟩ := I6.rk a h
                    exact ⟨sa, h1, (mk_sub subw).seq h2⟩
                  next => cases e2
              next => cases e2
          next => cases e2
      · have ei : i = xs.length := by omega
        subst ei
        refine .inl ⟨W.stops H2 g2, ?_⟩
        rw [List.drop_length] at e2
        unfold lcGo2 at e2
        cases e2
        rw [List.append_nil] at eds
        subst eds
        have sub0 : ∀ a, Msk M' r σ ss a → Msk M' r (wipe σ vs) (wipeS ss vs) a := fun a z => by
          rcases z with z | z | z
          · exact .inl z
          · exact .inr (.inl z)
          · exact .inr (.inr (own_unwipe hn z))
        have IH : ER P M' r σ (upd H1 D (.lst [])) ss rw1 := I1.hide hD
        have IE : ER P M' r σ H2 ss rw' := by
          refine IH.back (fun b o hb n nm => ?_) I2.m0 fun a h => ?_
          · have nb : b ≠ D := fun z => nm (.inr z)
            rw [upd_ne nb] at hb
            exact k2 b o hb n
          · obtain ⟨_, sa, h1, h2⟩ := I2.rk a h
            exact ⟨sa, h1, (mk_sub sub0).seq h2⟩
        exact q D us H2 (k1.trans k2) IE hD0 hus (drAll_mono (mk_sub sub0) _ _ dr)
    next => cases e
  next => cases e
variable {X : Cx}
theorem fl_lc2 {elt tg iter tg1 iter1 : Expr} {ifs1 : List Expr} {scope : Scope} {own : List (Str × Nat)} {pos : Pos}
    (hi : FI X P tg iter mi) (ok : BlkOk X.N X.env.scope scope own) (hv : own.map (·.2) = vs) (hv1 : ∀ i ∈ vs1, i ∈ vs) (hg : GOk P t g vs) (hg1 : GOk P t1 g1 vs1)
    (hgp : ∀ (s : Shared) (H : Hp) (C : Addr) (cl : List (Str × Addr)) (fp : List Addr), PG (X.blk s H scope (compEnvC scope cl C X.env) fp) tg t)
    (hi1 : ∀ (s : Shared) (H : Hp) (C : Addr) (cl : List (Str × Addr)) (fp : List Addr), FI (X.blk s H scope (compEnvC scope cl C X.env) fp) P tg1 iter1 mi1)
    (hgp1 : ∀ (s : Shared) (H : Hp) (C : Addr) (cl : List (Str × Addr)) (fp : List Addr), PG (X.blk s H scope (compEnvC scope cl C X.env) fp) tg1 t1)
    (ht : ∀ (s : Shared) (H : Hp) (C : Addr) (cl : List (Str × Addr)) (fp : List Addr), PTs (X.blk s H scope (compEnvC scope cl C X.env) fp) ifs1 (tT P tt1))
    (he : ∀ (s : Shared) (H : Hp) (C : Addr) (cl : List (Str × Addr)) (fp : List Addr), FE (X.blk s H scope (compEnvC scope cl C X.env) fp) P elt te) (hN : X.N.Nodup) (hc : X.calm = true := by rfl) (hs : ∀ x, foldedSetIterable iter X.env x = pure x := by intro _; rfl) (hs1 : ∀ env x, foldedSetIterable iter1 env x = pure x := by intro _ _; rfl) :
    FL X P (.ListComp elt [⟨tg, iter, [], 0⟩, ⟨tg1, iter1, ifs1, 0⟩] scope pos) (mLc2 vs mi g mi1 vs1 g1 tt1 te) := by
  subst hv
  exact PE.imp (pe_lc2 hc hN hi ok hv1 hgp (fun _ _ _ _ _ => fts_nil) hi1 hgp1 ht he hs hs1) (tL_lc2 hg hg1)
theorem st_lc2 {i : Nat} {y : Str} {py : Pos} {elt tg iter tg1 iter1 : Expr} {ifs1 : List Expr} {scope : Scope} {own : List (Str × Nat)} {pos spos : Pos}
    (hy : X.N[i]? = some y) (hyl : X.env.scope.names.lookup y = some .local) (hsw : swapsWith (.ListComp elt [⟨tg, iter, [], 0⟩, ⟨tg1, iter1, ifs1, 0⟩] scope pos) (some (.Name y py)) spos.line X.env = pure true)
    (hi : FI X P tg iter mi) (ok : BlkOk X.N X.env.scope scope own) (hv : own.map (·.2) = vs) (hv1 : ∀ i ∈ vs1, i ∈ vs) (hg : GOk P t g vs) (hg1 : GOk P t1 g1 vs1)
    (hgp : ∀ (s : Shared) (H : Hp) (C : Addr) (cl : List (Str × Addr)) (fp : List Addr), PG (X.blk s H scope (compEnvC scope cl C X.env) fp) tg t)
    (hi1 : ∀ (s : Shared) (H : Hp) (C : Addr) (cl : List (Str × Addr)) (fp : List Addr), FI (X.blk s H scope (compEnvC scope cl C X.env) fp) P tg1 iter1 mi1)
    (hgp1 : ∀ (s : Shared) (H : Hp) (C : Addr) (cl : List (Str × Addr)) (fp : List Addr), PG (X.blk s H scope (compEnvC scope cl C X.env) fp) tg1 t1)
    (ht : ∀ (s : Shared) (H : Hp) (C : Addr) (cl : List (Str × Addr)) (fp : List Addr), PTs (X.blk s H scope (compEnvC scope cl C X.env) fp) ifs1 (tT P tt1))
    (he : ∀ (s : Shared) (H : Hp) (C : Addr) (cl : List (Str × Addr)) (fp : List Addr), FE (X.blk s H scope (compEnvC scope cl C X.env) fp) P elt te) (hN : X.N.Nodup) (hc : X.calm = true := by rfl) (hs : ∀ x, foldedSetIterable iter X.env x = pure x := by intro _; rfl) (hs1 : ∀ env x, foldedSetIterable iter1 env x = pure x := by intro _ _; rfl) :
    PS X (.Assign [.Name y py] (.ListComp elt [⟨tg, iter, [], 0⟩, ⟨tg1, iter1, ifs1, 0⟩] scope pos) spos) (tAsg (tL P (mLc2 vs mi g mi1 vs1 g1 tt1 te)) (gName i)) := by
  subst hv
  exact PS.imp (ps_setLc2 hc hN hy hyl hsw hi ok hv1 hgp (fun _ _ _ _ _ => fts_nil) hi1 hgp1 ht he hs hs1) fun D σ H h => tL_lc2 hg hg1 σ H _ h
end
end FL
/-! The row of a script: its cells read and set; zip of any two. -/
namespace FL
open PySem L2
section
variable {P : Pm} {X : Cx} {fx : Nat → Addr} {W : WX} {M : Addr → Prop} {r : Option Addr} {σ : St} {H : Hp} {ss : List Sl} {rw : Ro} {i : Nat} {x : Str} {p0 p1 pos : Pos} {z b : Expr} {fa fb : Mx Vl}
theorem mk_out {S : Addr → Prop} {H : Hp} {a : Addr} {o : HO} (h : S a) : Same (hdn S H) (hdn S (upd H a o)) := mk_same fun b u n e => ⟨n, by
  have nb : b ≠ a := fun z => n (by rw [z]; exact h)
  rw [upd_ne nb]
  exact e⟩
/-- the row's two numbers change -/
theorem ER.setRow (I : ER P M r σ H ss rw) {a sa : Addr} (hr : r = some a) (hs : H a = some (.lst [.ref sa, .int rw.1, .int rw.2])) (rw' : Ro) : ER P M r σ (upd H a (.lst [.ref sa, .int rw'.1, .int rw'.2])) ss rw' := by
  have hS : Msk M r σ ss a := .inr (.inl hr)
  have sub : Same (hdn (Msk M r σ ss) H) (hdn (Msk M r σ ss) (upd H a (.lst [.ref sa, .int rw'.1, .int rw'.2]))) := mk_out hS
  refine ⟨I.len, fun j y h => ?_, fun j ds h => ?_, I.rs, fun c h => ?_, fun c h => ?_, I.inj⟩
  · obtain ⟨u, h1, h2⟩ := I.sl j y h
    exact ⟨u, h1, VR.mono sub h2⟩
  · obtain ⟨c, us, h1, h2, h3, h4, h5⟩ := I.ow j ds h
    have nc : c ≠ a := fun z => h5 (by rw [z]; exact hr)
    exact ⟨c, us, h1, by rw [upd_ne nc]; exact h2, drAll_mono sub _ _ h3, h4, h5⟩
  · rw [hr] at h
    cases h
    obtain ⟨h1, sc, h2, h3⟩ := I.rk a hr
    rw [hs] at h2
    cases h2
    exact ⟨h1, sa, upd_same, sub.seq h3⟩
  · by_cases z : c = a
    · subst z
      rw [upd_same]
      simp
    · rw [upd_ne z]
      exact I.m0 c h
theorem Gr.setRow {a : Addr} {o : HO} (hr : r = some a) : Gr r σ H ss σ (upd H a o) ss := ⟨fun b u e n _ => by
  have nb : b ≠ a := fun z => n (by rw [z]; exact hr)
  rw [upd_ne nb]
  exact e, fun _ y => .inl y, fun b y => by
  by_cases q : b = a
  · subst q
    rw [upd_same]
    simp
  · rw [upd_ne q]
    exact y⟩
/-- the row's own numbers: 1 the counter, 2 the seed -/
def mRow1 (i : Nat) : Mx Vl := fun ss rw => match ss[i]? with
  | some .row => some (.dat (.int rw.1), rw)
  | _ => none
def mRow2 (i : Nat) : Mx Vl := fun ss rw => match ss[i]? with
  | some .row => some (.dat (.int rw.2), rw)
  | _ => none
theorem fe_row1 {jj : Nat} {p2 : Pos} (hv : PE X (.Name x p0) (tVar i)) (hK : X.K = P.K := by rfl) (hs : PlainIx (.Constant (.int 1) jj p2) := by exact (fun _ _ => rfl)) : FE X P (.Subscript (.Name x p0) (.Constant (.int 1) jj p2) pos) (mRow1 i) := by
  refine PE.imp (pe_ix ix_seq hv pe_int hs) ?_
  rw [hK]
  rintro σ H Q ⟨M, r, ss, rw, y, rw', I, e, q⟩
  unfold mRow1 at e
  split at e
  next hi =>
    cases e
    obtain ⟨a, h1, h2⟩ := I.rs i hi
    obtain ⟨_, sa, h3, _⟩ := I.rk a h1
    refine ⟨_, h2, .inl ⟨a, _, 1, .int rw.1, rfl, rfl, SqL.of h3, rfl, q _ H (KeepR.refl _ _) I (DR.int _)⟩⟩
  next => cases e
theorem fe_row2 {jj : Nat} {p2 : Pos} (hv : PE X (.Name x p0) (tVar i)) (hK : X.K = P.K := by rfl) (hs : PlainIx (.Constant (.int 2) jj p2) := by exact (fun _ _ => rfl)) : FE X P (.Subscript (.Name x p0) (.Constant (.int 2) jj p2) pos) (mRow2 i) := by
  refine PE.imp (pe_ix ix_seq hv pe_int hs) ?_
  rw [hK]
  rintro σ H Q ⟨M, r, ss, rw, y, rw', I, e, q⟩
  unfold mRow2 at e
  split at e
  next hi =>
    cases e
    obtain ⟨a, h1, h2⟩ := I.rs i hi
    obtain ⟨_, sa, h3, _⟩ := I.rk a h1
    refine ⟨_, h2, .inl ⟨a, _, 2, .int rw.2, rfl, rfl, SqL.of h3, rfl, q _ H (KeepR.refl _ _) I (DR.int _)⟩⟩
  next => cases e
/-- len(row[0]) -/
def mRowLen (i : Nat) (n : Nat) : Mx Vl := fun ss rw => match ss[i]? with
  | some .row => some (.dat (.int n), rw)
  | _ => none
theorem fe_rowLen {jj : Nat} {p2 p3 p4 : Pos} (hv : PE X (.Name x p0) (tVar i)) (hm : X.mg "len" = none) (hK : X.K = P.K := by rfl) (hg : Gl X "len" := by rfl) (hs : PlainIx (.Constant (.int 0) jj p2) := by exact (fun _ _ => rfl))
    (he0 : starEach [.Subscript (.Name x p0) (.Constant (.int 0) jj p2) p3] X.env = (false, eval (.Subscript (.Name x p0) (.Constant (.int 0) jj p2) p3) X.env) :: starEach [] X.env := by rfl) (hpl : (backTo pos (starEach [] X.env)).any (·.1) = false := by rfl) :
    FE X P (.Call (.Name "len" p4) [.Subscript (.Name x p0) (.Constant (.int 0) jj p2) p3] [] pos) (mRowLen i P.ns.length) := by
  refine PE.imp (pe_callB FL.call_lenD hg hm (by decide +kernel) (pa_cons (pe_ix ix_seq hv pe_int hs) pa_nil he0) (by decide) (by decide) he0 hpl) ?_
  rw [hK]
  rintro σ H Q ⟨M, r, ss, rw, y, rw', I, e, q⟩
  unfold mRowLen at e
  split at e
  next hi =>
    cases e
    obtain ⟨a, h1, h2⟩ := I.rs i hi
    obtain ⟨_, sa, h3, h4⟩ := I.rk a h1
    refine ⟨_, h2, .inl ⟨a, _, 0, .ref sa, rfl, rfl, SqL.of h3, rfl, ⟨_, P.ns.length, rfl, .inl ⟨_, (mk_le _ _).seq h4, by rw [List.length_map]⟩, q _ H (KeepR.refl _ _) I (DR.int _)⟩⟩⟩
  next => cases e
/-- row[0][b] -/
def mRowAt (i : Nat) (ns : List Int) (fb : Mx Vl) : Mx Vl := bnd fb fun y => fun ss rw => match ss[i]?, y with
  | some .row, .dat (.int k) => (match atI ns k with
    | some c => some (.dat (.int c), rw)
    | none => none)
  | _, _ => none
theorem atI_map {α β : Type} (f : α → β) {xs : List α} {k : Int} {c : α} (h : atI xs k = some c) : atI (xs.map f) k = some (f c) := by
  unfold atI at h ⊢
  rw [List.length_map]
  cases e : ixN xs.length k with
  | none => rw [e] at h; cases h
  | some j =>
    rw [e] at h
    show (xs.map f)[j]? = _
    have h : xs[j]? = some c := h
    rw [List.getElem?_map, h]
    rfl
theorem fe_rowAt {jj : Nat} {p2 p3 : Pos} (hv : PE X (.Name x p0) (tVar i)) (hb : FE X P b fb) (hK : X.K = P.K := by rfl) (hs : PlainIx (.Constant (.int 0) jj p2) := by exact (fun _ _ => rfl)) (hs2 : PlainIx b := by exact (fun _ _ => rfl)) :
    FE X P (.Subscript (.Subscript (.Name x p0) (.Constant (.int 0) jj p2) p3) b pos) (mRowAt i P.ns fb) := by
  refine PE.imp (pe_ix ix_seq (pe_ix ix_seq hv pe_int hs) hb hs2) ?_
  rw [hK]
  rintro σ H Q ⟨M, r, ss, rw, y, rw', I, e, q⟩
  obtain ⟨k, rw1, e1, e⟩ := bnd_some e
  split at e
  next kk hi =>
    split at e
    next c hc =>
      cases e
      obtain ⟨a, h1, h2⟩ := I.rs i hi
      obtain ⟨_, sa, h3, h4⟩ := I.rk a h1
      refine ⟨_, h2, .inl ⟨a, _, 0, .ref sa, rfl, rfl, SqL.of h3, rfl, ?_⟩⟩
      refine ⟨M, r, ss, rw, _, _, I, e1, fun u H1 k1 I1 hu => ?_⟩
      rw [vr_int hu]
      obtain ⟨_, sa', g3, g4⟩ := I1.rk a h1
      have h4' : SqL P.K (hdn (Msk M r σ ss) H1) sa (P.ns.map V.int) := k1.msk.seq h4
      exact .inl ⟨sa, _, kk, .int c, rfl, rfl, (mk_le _ _).seq h4', atI_map _ hc, q _ H1 k1 I1 (DR.int _)⟩
    next => cases e
  next => cases e
/-- row[1] = e, row[2] = e -/
def sRow (i : Nat) (b : Bool) (m : Mx Vl) : Sx := fun ss rw => match m ss rw with
  | some (.dat (.int k), rw1) => (match ss[i]? with
    | some .row => some (.nx ss (if b then (rw1.1, k) else (k, rw1.2)))
    | _ => none)
  | _ => none
theorem fs_row1 {jj : Nat} {p2 p3 : Pos} {e : Expr} {m : Mx Vl} (hv : PE X (.Name x p0) (tVar i)) (he : FE X P e m) (hs : swapsWithSole [.Subscript (.Name x p0) (.Constant (.int 1) jj p2) p3] e pos.line X.env = pure false := by rfl) (hw : swappedStores [.Subscript (.Name x p0) (.Constant (.int 1) jj p2) p3] e X.env = pure none := by rfl) :
    FS X P fx W (.Assign [.Subscript (.Name x p0) (.Constant (.int 1) jj p2) p3] e pos) (sRow i false m) := by
  refine PS.imp (ps_asg he (pg_sub hv pe_int set_list) hs hw rfl) ?_
  rintro D σ H ⟨M, r, ss, rw, o, I, e, q⟩
  unfold sRow at e
  split at e
  next k rw1 e1 =>
    split at e
    next hi =>
      cases e
      refine ⟨M, r, ss, rw, _, rw1, I, e1, fun v H1 k1 I1 hv => ?_⟩
      obtain ⟨a, h1, h2⟩ := I1.rs i hi
      obtain ⟨_, sa, h3, _⟩ := I1.rk a h1
      rw [vr_int hv]
      refine ⟨_, h2, a, _, 1, 1, rfl, rfl, h3, rfl, ?_⟩
      exact q σ _ ((Gr.ofR k1 I1).trans (Gr.setRow h1)) (I1.setRow h1 h3 (k, rw1.2))
    next => cases e
  next => cases e
theorem fs_row2 {jj : Nat} {p2 p3 : Pos} {e : Expr} {m : Mx Vl} (hv : PE X (.Name x p0) (tVar i)) (he : FE X P e m) (hs : swapsWithSole [.Subscript (.Name x p0) (.Constant (.int 2) jj p2) p3] e pos.line X.env = pure false := by rfl) (hw : swappedStores [.Subscript (.Name x p0) (.Constant (.int 2) jj p2) p3] e X.env = pure none := by rfl) :
    FS X P fx W (.Assign [.Subscript (.Name x p0) (.Constant (.int 2) jj p2) p3] e pos) (sRow i true m) := by
  refine PS.imp (ps_asg he (pg_sub hv pe_int set_list) hs hw rfl) ?_
  rintro D σ H ⟨M, r, ss, rw, o, I, e, q⟩
  unfold sRow at e
  split at e
  next k rw1 e1 =>
    split at e
    next hi =>
      cases e
      refine ⟨M, r, ss, rw, _, rw1, I, e1, fun v H1 k1 I1 hv => ?_⟩
      obtain ⟨a, h1, h2⟩ := I1.rs i hi
      obtain ⟨_, sa, h3, _⟩ := I1.rk a h1
      rw [vr_int hv]
      refine ⟨_, h2, a, _, 2, 2, rfl, rfl, h3, rfl, ?_⟩
      exact q σ _ ((Gr.ofR k1 I1).trans (Gr.setRow h1)) (I1.setRow h1 h3 (rw1.1, k))
    next => cases e
  next => cases e
theorem gok_wide {t : TG} {g : PyData → List Sl → Option (List Sl)} {vs ws : List Nat} (h : GOk P t g vs) (hs : ∀ i ∈ vs, i ∈ ws) : GOk P t g ws := fun M r σ H ss rw v d ss' Q I hv e q =>
  h M r σ H ss rw v d ss' Q I hv e fun σ' o I' w => q σ' ⟨o.1, o.2.1, fun i hi => o.2.2 i fun z => hi (hs i z)⟩ I' w
/-- zip of two lists, of two tuples, of a list and a tuple -/
def mZ3 (fa fb : Mx Vl) : Mx (List PyData) := bnd fa fun x => bnd fb fun y => opt (match x, y with
  | .dat (.list ds), .dat (.list es) => some (zpD ds es)
  | .dat (.tuple ds), .dat (.tuple es) => some (zpD ds es)
  | .dat (.list ds), .dat (.tuple es) => some (zpD ds es)
  | _, _ => none)
theorem fi_zip3 {a b : Expr} {p pos tpos : Pos} {elts : List Expr} {kk : Nat} (ha : FE X P a fa) (hb : FE X P b fb) (hm : X.mg "zip" = none) (hK : X.K = P.K := by rfl) (hg : Gl X "zip" := by rfl)
    (hs : starEach [a, b] X.env = (false, eval a X.env) :: starEach [b] X.env := by rfl) (hs2 : starEach [b] X.env = (false, eval b X.env) :: starEach [] X.env := by rfl) (hpl : (backTo pos (starEach [b] X.env)).any (·.1) = false := by rfl) :
    FI X P (.Tuple elts kk tpos) (.Call (.Name "zip" p) [a, b] [] pos) (mZ3 fa fb) := by
  refine PI.imp (PI.or (fi_zip ha hb hm hK hg hs hs2 hpl) (fi_zipLT ha hb hm hK hg hs hs2 hpl)) ?_
  rintro σ H R ⟨M, r0, ss, rw, xs, rw', I, e, q⟩
  obtain ⟨y, rw1, e1, e⟩ := bnd_some e
  obtain ⟨z, rw2, e3, e⟩ := bnd_some e
  obtain ⟨e2, rfl⟩ := opt_some e
  split at e2
  next ds es =>
    cases e2
    refine .inl ⟨M, r0, ss, rw, _, rw', I, ?_, q⟩
    simp only [mZp, bnd, e1, e3, opt]
  next ds es =>
    cases e2
    refine .inl ⟨M, r0, ss, rw, _, rw', I, ?_, q⟩
    simp only [mZp, bnd, e1, e3, opt]
  next ds es =>
    cases e2
    refine .inr ⟨M, r0, ss, rw, _, rw', I, ?_, q⟩
    simp only [mZq, bnd, e1, e3, opt]
  next => cases e2
end
end FL
/-! A house made: its __init__ where the checks go through. -/
namespace FL
open PySem L2
section
variable {Pg : Program} {w : World} {K : PySem.W.Frag} {mg : Str → Option Value} {base : Heap} {ns : List Int} {C : Addr} {f : Addr} {fd : FuncData} {st : Stmt} {k : Nat}
/-- a method as it stands -/
def Hm (K : PySem.W.Frag) (C : Addr) (m qual : Str) (st : Stmt) : Prop := ∃ f fd, Fun K m qual st f fd ∧ Meth K C m f
theorem dm_L {m qual : Str} {mm : Sx} {N : List Str} {P : Pm} (h : Hm K C m qual st) (S : FnScope N ["self"] (defScope st)) (hk : (["self"] : List Str).length ≤ N.length)
    (B : ∀ (kV doc pm : Value) (an : Option Addr) (cdv ct : Value) (us : List Value), us.length = (["self"] : List Str).length → bindArgs (PySem.W.fnOf m qual (defArgs st) (defBody st) (defScope st) .none kV doc pm an cdv ct) ⟨us, []⟩ = pure ((["self"] : List Str).zip us))
    (hb : ∀ (f : Addr) (cdv : Value) (A : Around) (outer : List Env) (s : Shared) (H : Hp) (E : XK), Room k (A.deeper (PyProof.Rows.envOfC qual (defScope st) s.heap.objs.size f cdv)) → FSs (cxOf CX0 Pg w K mg base N qual (defScope st) f cdv A outer s H E).nox P (fun _ => 0) W0 (defBody st) mm)
    {F : List Vl → Option (List PyData)} (e : ∀ xs ds, F xs = some ds → bodyL N.length 1 mm xs = some ds) : Dm Pg w K mg base (k + 1) C m (spL P F) := by
  obtain ⟨f, fd, G, h1⟩ := h
  exact ⟨f, fd, spL_eq (fn_L G S hk fun cdv A outer s H E hr => hb f cdv A outer s H E hr) e, h1, G.binds B⟩
def spI (P : Pm) (C : Addr) (G : List PyData → List PyData → Prop) : Sp := fun vs H Q _ => ∃ S x dx v1 v2 ts ties, vs = [.ref x, v1, v2] ∧ Live S H ∧ ¬ S x ∧ H x = some (.ins C dx []) ∧ VR P (hdn (fun a => S a ∨ a = x) H) v1 (.dat (.list ts)) ∧ VR P (hdn (fun a => S a ∨ a = x) H) v2 (.dat (.list ties)) ∧
  G ts ties ∧ ∀ H', (∀ b o, b ≠ x → H b = some o → H' b = some o) → HouseAt P.K C (hdn S H') x ts ties → Q .non H'
abbrev psI : List Str := ["self", "things", "ties"]
def okI (F1 F2 : List Vl → Option Vl) (ts ties : List PyData) : Prop := F1 [.dat (.list ts)] = some (.dat .none) ∧ F2 [.dat (.list ts), .dat (.list ties)] = some (.dat .none)
theorem er_init {P : Pm} {S : Addr → Prop} {H : Hp} {x : Addr} {v1 v2 : V} {ts ties : List PyData} (hS : Live S H) (hx : H x ≠ none) (h1 : VR P (hdn (fun a => S a ∨ a = x) H) v1 (.dat (.list ts))) (h2 : VR P (hdn (fun a => S a ∨ a = x) H) v2 (.dat (.list ties))) :
    ER P (fun a => S a ∨ a = x) none [some (.ref x), some v1, some v2] H [.no, .vl (.dat (.list ts)), .vl (.dat (.list ties))] (0, 0) := by
  have own_no : ∀ a, ¬ Own [some (.ref x), some v1, some v2] [.no, .vl (.dat (.list ts)), .vl (.dat (.list ties))] a := fun a ⟨i, ds, e, _⟩ => by
    match i, e with
    | 0, e => cases e
    | 1, e => cases e
    | 2, e => cases e
    | n + 3, e => simp at e
  have sub : Same (hdn (fun a => S a ∨ a = x) H) (hdn (Msk (fun a => S a ∨ a = x) none [some (.ref x), some v1, some v2] [.no, .vl (.dat (.list ts)), .vl (.dat (.list ties))]) H) := mk_sub fun a z => by
    rcases z with z | z | z
    · exact z
    · cases z
    · exact (own_no a z).elim
  refine ⟨rfl, fun i y e => ?_, fun i ds e => ?_, fun i e => ?_, fun a e => (nomatch e), fun a z => ?_, fun i j a ds es e _ z => ?_⟩
  · match i, e with
    | 0, e => cases e
    | 1, e => cases e; exact ⟨v1, rfl, VR.mono sub h1⟩
    | 2, e => cases e; exact ⟨v2, rfl, VR.mono sub h2⟩
    | n + 3, e => simp at e
  · match i, e with
    | 0, e => cases e
    | 1, e => cases e
    | 2, e => cases e
    | n + 3, e => simp at e
  · match i, e with
    | 0, e => cases e
    | 1, e => cases e
    | 2, e => cases e
    | n + 3, e => simp at e
  · rcases z with z | z
    · exact hS a z
    · rw [z]; exact hx
  · exact (own_no a ⟨i, ds, e, z⟩).elim
/-- the two stores -/
theorem stores_I {P : Pm} {S : Addr → Prop} {H : Hp} {x dx : Addr} {σ : St} {ts ties : List PyData} {D : Ends} (hS : Live S H) (nS : ¬ S x) (hx : H x = some (.ins C dx [])) (s0 : σ[0]? = some (some (.ref x)))
    (I : ER P (fun a => S a ∨ a = x) none σ H [.no, .vl (.dat (.list ts)), .vl (.dat (.list ties))] (0, 0)) (c : Cls P.K C) (n1 : NoAttr P.K C "_things") (n2 : NoAttr P.K C "_ties")
    (q : ∀ H', (∀ b o, b ≠ x → H b = some o → H' b = some o) → HouseAt P.K C (hdn S H') x ts ties → D.nx σ H') :
    tSeq (sFld P.K (tVar 0) (tL P (bnd (mVar 1) fun x => opt (lstD x))) "_things") (sFld P.K (tVar 0) (tL P (bnd (mVar 2) fun x => opt (lstD x))) "_ties") D σ H := by
  refine ⟨_, none, _, (0, 0), ts, (0, 0), I, rfl, fun p vs H3 k3 I3 hp0 hp hd => ?_⟩
  have kx : ∀ {H' : Hp}, KeepR none H H' → ∀ b o, H b = some o → H' b = some o := fun k b o e => k b o e (by simp)
  have h3x := kx k3 _ _ hx
  have np : p ≠ x := fun z => by rw [z, hx] at hp0; cases hp0
  refine ⟨_, s0, x, C, dx, [], rfl, h3x, c, n1, by simp, ?_⟩
  refine ⟨_, none, _, (0, 0), ties, (0, 0), I3.hid (D := x) (.inl (.inr rfl)), rfl, fun p2 vs2 H5 k5 I5 hp50 hp5 hd5 => ?_⟩
  have kx5 : ∀ b o, (upd H3 x (.ins C dx (putF "_things" (V.ref p) []))) b = some o → H5 b = some o := fun b o e => k5 b o e (by simp)
  have h5x := kx5 x _ upd_same
  have np2 : p2 ≠ x := fun z => by rw [z, upd_same] at hp50; cases hp50
  refine ⟨_, s0, x, C, dx, _, rfl, h5x, c, n2, by simp [putF], ?_⟩
  have up : ∀ b o, b ≠ x → H3 b = some o → (upd H5 x (.ins C dx (putF "_ties" (V.ref p2) (putF "_things" (V.ref p) [])))) b = some o := fun b o nb e => by
    rw [upd_ne nb]
    exact kx5 b o (by rw [upd_ne nb]; exact e)
  have nSp : ¬ S p := fun z => hS p z hp0
  have nSp2 : ¬ S p2 := fun z => by
    have := hS p2 z
    cases y : H p2 with
    | none => exact this y
    | some o =>
      rw [upd_ne np2] at hp50
      rw [kx k3 _ _ y] at hp50
      cases hp50
  refine q _ (fun b o nb e => up b o nb (kx k3 b o e)) ⟨dx, p, p2, vs, vs2, mk_at nS upd_same, mk_at nSp (up p _ np hp), drAll_mono (mk_same fun b o n e => ?_) _ _ hd, mk_at nSp2 (by rw [upd_ne np2]; exact hp5), drAll_mono (mk_same fun b o n e => ?_) _ _ hd5⟩
  · have nb : b ≠ x := fun z => n (.inl (.inl (.inr z)))
    exact ⟨fun z => n (.inl (.inl (.inl z))), up b o nb e⟩
  · have nb : b ≠ x := fun z => n (.inl (.inl (.inl (.inr z))))
    exact ⟨fun z => n (.inl (.inl (.inl (.inl z)))), by rw [upd_ne nb]; exact e⟩
def rdI (P : Pm) (F1 F2 : List Vl → Option Vl) : TS := tSeq (tDrop (tE P (mCall F1 (mCons (mVar 1) mNil)))) (tSeq (tDrop (tE P (mCall F2 (mCons (mVar 1) (mCons (mVar 2) mNil))))) (tSeq (sFld P.K (tVar 0) (tL P (bnd (mVar 1) fun x => opt (lstD x))) "_things") (sFld P.K (tVar 0) (tL P (bnd (mVar 2) fun x => opt (lstD x))) "_ties")))
theorem init_ok {qual : Str} {P : Pm} {F1 F2 : List Vl → Option Vl} (F : Fun K "__init__" qual st f fd) (S : FnScope psI psI (defScope st)) (c : Cls P.K C) (n1 : NoAttr P.K C "_things") (n2 : NoAttr P.K C "_ties")
    (hb : ∀ (cdv : Value) (A : Around) (outer : List Env) (s : Shared) (H : Hp) (E : XK), Room k (A.deeper (PyProof.Rows.envOfC qual (defScope st) s.heap.objs.size f cdv)) → PSs (cxOf CX0 Pg w K mg base psI qual (defScope st) f cdv A outer s H E).nox (defBody st) (rdI P F1 F2)) :
    FnOk Pg w K mg base CX0 (k + 1) f fd psI (spI P C (okI F1 F2)) := by
  refine F.ok S (fun vs H Q E h => ?_) (fun cdv A outer s H vs Q E hr h => ⟨_, hb cdv A outer s H E hr, ?_⟩)
  · obtain ⟨S0, x, dx, v1, v2, ts, ties, rfl, _⟩ := h
    rfl
  · obtain ⟨S0, x, dx, v1, v2, ts, ties, rfl, hS, nS, hx, h1, h2, ⟨e1, e2⟩, q⟩ := h
    have I0 := er_init hS (by rw [hx]; simp) h1 h2
    have m1 : mCall F1 (mCons (mVar 1) mNil) [.no, .vl (.dat (.list ts)), .vl (.dat (.list ties))] (0, 0) = some (.dat .none, (0, 0)) := by
      show (opt (F1 [.dat (.list ts)]) : Mx Vl) [] (0, 0) = _
      rw [e1]
      rfl
    have m2 : mCall F2 (mCons (mVar 1) (mCons (mVar 2) mNil)) [.no, .vl (.dat (.list ts)), .vl (.dat (.list ties))] (0, 0) = some (.dat .none, (0, 0)) := by
      show (opt (F2 [.dat (.list ts), .dat (.list ties)]) : Mx Vl) [] (0, 0) = _
      rw [e2]
      rfl
    refine ⟨_, none, _, (0, 0), .dat .none, (0, 0), I0, m1, fun _ H1 k1 I1 _ => ⟨_, none, _, (0, 0), .dat .none, (0, 0), I1, m2, fun _ H2 k2 I2 _ => ?_⟩⟩
    have s2 : Same H H2 := fun b o e => k2 b o (k1 b o e (by simp)) (by simp)
    refine stores_I (S := S0) (fun a z => ?_) nS (s2 _ _ hx) rfl I2 c n1 n2 fun H' k' hh => ?_
    · have := hS a z
      cases y : H a with
      | none => exact absurd y this
      | some o => rw [s2 _ _ y]; simp
    · exact q H' (fun b o nb e => k' b o nb (s2 b o e)) hh
/-- the class, made -/
def Dh (Pg : Program) (w : World) (K : PySem.W.Frag) (mg : Str → Option Value) (base : Heap) (CX : CXT) (k : Nat) (C : Addr) (sp : Sp) : Prop :=
  ∃ f fd, FnOk Pg w K mg base CX k f fd psI sp ∧ Mk K C f ∧ mg "House" = some (.ref C) ∧ Binds K fd psI []
def mMake (F1 F2 : List Vl → Option Vl) (ma : Mx (List Vl)) : Mx Vl := bnd ma fun xs => match xs with
  | [.dat (.list ts), .dat (.list ties)] => opt (match F1 [.dat (.list ts)], F2 [.dat (.list ts), .dat (.list ties)] with
    | some (.dat .none), some (.dat .none) => some (.hse ts ties)
    | _, _ => none)
  | _ => opt none
variable {X : Cx} {e : Expr} {es : List Expr} {ma : Mx (List Vl)} {p pos : Pos}
theorem made_same {H1 : Hp} {x dx : Addr} (hx : H1 x = none) (hd : H1 dx = none) (u o : HO) : Same H1 (upd (upd H1 dx u) x o) := fun b z e => by
  rw [upd_ne (ne_of_none e hx), upd_ne (ne_of_none e hd)]
  exact e
theorem fe_make {F1 F2 : List Vl → Option Vl} (D : Dh X.prog X.w X.K X.mg X.base CX0 k C (spI (pm X.K ns C) C (okI F1 F2))) (hr : Room (k + 1) X.A) (ha : FA X (pm X.K ns C) (e :: es) ma)
    (hg : Gl X "House" := by rfl) (he : starEach (e :: es) X.env = (false, eval e X.env) :: starEach es X.env := by rfl) (hpl : (backTo pos (starEach es X.env)).any (·.1) = false := by rfl) :
    FE X (pm X.K ns C) (.Call (.Name "House" p) (e :: es) [] pos) (mMake F1 F2 ma) := by
  obtain ⟨f, fd, G, M, h1, h2⟩ := D
  refine PE.imp (pe_make M G hr hg h1 h2 .nil pass0 ha (by decide) he hpl) ?_
  rintro σ H Q ⟨M0, r, ss, rw, z, rw', I, e, q⟩
  obtain ⟨xs, rw1, e1, e⟩ := bnd_some e
  refine ⟨M0, r, ss, rw, xs, rw1, I, e1, fun vs H1 k1 I1 hv x dx hx hdx hne => ?_⟩
  split at e
  next ts ties =>
    obtain ⟨e2, rfl⟩ := opt_some e
    split at e2
    next f1 f2 =>
      cases e2
      cases hv with
      | cons v1 hv =>
        cases hv with
        | cons v2 hv =>
          cases hv
          rename_i u1 u2
          have s12 : Same H1 (upd (upd H1 dx (.own x)) x (.ins C dx [])) := made_same hx hdx _ _
          have see : Same (hdn (Msk M0 r σ ss) H1) (hdn (fun a => Msk M0 r σ ss a ∨ a = x) (upd (upd H1 dx (.own x)) x (.ins C dx []))) := mk_same fun b o n h =>
            ⟨fun y => y.elim n fun y => ne_of_none h hx y, s12 b o h⟩
          have nS : ¬ Msk M0 r σ ss x := fun y => I1.alloc x y hx
          refine ⟨Msk M0 r σ ss, x, dx, u1, u2, ts, ties, rfl, (I1.grow s12).alloc, nS, upd_same, VR.mono see v1, VR.mono see v2, ⟨f1, f2⟩, fun H' k' hh => ⟨rfl, ?_⟩⟩
          have s1 : Same H1 H' := fun b o y => k' b o (ne_of_none y hx) (s12 b o y)
          exact q _ H' (k1.trans (KeepR.of s1)) (I1.grow s1) ⟨x, rfl, hh⟩
    next => cases e2
  next => cases (opt_some e).1
end
end FL
/-! f-strings, raise, try .. except .. as e. -/
namespace FL
open PySem L2
section
variable {P : Pm} {X : Cx} {fx : Nat → Addr} {W : WX}
/-! ### f-strings -/
def mFmt (fa : Mx Vl) : Mx Vl := bnd fa fun x => opt (match x with
  | .dat (.str y) => if y.length ≤ 100000 then some (.dat (.str y)) else none
  | .dat (.int i) => if i.natAbs.log2 < 1920 then some (.dat (.str (toString i))) else none
  | _ => none)
theorem fe_fmt {e : Expr} {fa : Mx Vl} {pos : Pos} (he : FE X P e fa) : FE X P (.FormattedValue e (-1) none pos) (mFmt fa) := by
  refine PE.imp (pe_fmt he) ?_
  rintro σ H Q ⟨M, r, ss, rw, z, rw', I, e, q⟩
  obtain ⟨y, rw1, e1, e⟩ := bnd_some e
  obtain ⟨e2, rfl⟩ := opt_some e
  refine ⟨M, r, ss, rw, y, _, I, e1, fun v H1 k1 I1 hv => ?_⟩
  split at e2
  next y =>
    split at e2
    next hl =>
      cases e2
      exact .inl ⟨y, vr_str hv, sz_of hl, q _ H1 k1 I1 (DR.str y)⟩
    next => cases e2
  next i =>
    split at e2
    next hl =>
      cases e2
      exact .inr ⟨i, vr_int hv, hl, q _ H1 k1 I1 (DR.str _)⟩
    next => cases e2
  next => cases e2
inductive FJ (X : Cx) (P : Pm) : List Expr → List (Mx Vl) → Prop where
  | nil : FJ X P [] []
  | cons {e : Expr} {m : Mx Vl} {es : List Expr} {ms : List (Mx Vl)} (h : FE X P e m) (r : FJ X P es ms) : FJ X P (e :: es) (m :: ms)
theorem FJ.pj {es : List Expr} {ms : List (Mx Vl)} (h : FJ X P es ms) : PJ X es (ms.map (tE P)) := by
  induction h with
  | nil => exact .nil
  | cons h _ ih => exact .cons h ih
def mJs : List (Mx Vl) → Str → Mx Vl
  | [], acc => pur (.dat (.str acc))
  | m :: ms, acc => bnd m fun x => match x with
    | .dat (.str y) => if (acc ++ y).length ≤ 100000 then mJs ms (acc ++ y) else opt none
    | _ => opt none
theorem tJs_of {ms : List (Mx Vl)} : ∀ (acc : Str) (σ : St) (H : Hp) (Q : VK), tE P (mJs ms acc) σ H Q → tJs (ms.map (tE P)) acc σ H fun out H1 => Q (.str out) H1 := by
  induction ms with
  | nil =>
    rintro acc σ H Q ⟨M, r, ss, rw, z, rw', I, e, q⟩
    obtain ⟨rfl, rfl⟩ := pur_some e
    exact q _ H (KeepR.refl _ _) I (DR.str acc)
  | cons m ms ih =>
    rintro acc σ H Q ⟨M, r, ss, rw, z, rw', I, e, q⟩
    obtain ⟨y, rw1, e1, e⟩ := bnd_some e
    refine ⟨M, r, ss, rw, y, rw1, I, e1, fun v H1 k1 I1 hv => ?_⟩
    split at e
    next y =>
      split at e
      next hl => exact ⟨y, vr_str hv, sz_of hl, ih _ σ H1 Q ⟨M, r, ss, rw1, z, rw', I1, e, fun v2 H2 k2 I2 h2 => q v2 H2 (k1.trans k2) I2 h2⟩⟩
      next => cases (opt_some e).1
    next => cases (opt_some e).1
theorem fe_joined {v1 v2 : Expr} {rest : List Expr} {ms : List (Mx Vl)} {pos : Pos} (h : FJ X P (v1 :: v2 :: rest) ms) : FE X P (.JoinedStr (v1 :: v2 :: rest) pos) (mJs ms Str.empty) :=
  PE.imp (pe_joined h.pj) fun σ H Q q => tJs_of Str.empty σ H Q q

/-! ### raise -/
/-- a class of exceptions without own __init__: what its making asks -/
structure Xo (K : PySem.W.Frag) (mg : Str → Option Value) (x : Str) (C : Addr) : Prop where
  F : ∃ B newId initId bmB, ExcBaseFacts B newId initId bmB ∧ PySem.W.excIn K C bmB newId = true
  g : mg x = some (.ref C)
  kp : PySem.W.keepIn K (.ref C) = true
  h1 : PySem.W.subIn K (.ref C) (.type "BaseException") = some true
  h2 : PySem.W.typeIn K (.ref C) = some (.type "type")
def sRaise (c : Nat) (m : Mx Vl) : Sx := fun ss rw => match m ss rw with
  | some (_, rw1) => some (.er ⟨c, []⟩ ss rw1)
  | none => none
theorem fs_raise {c : Nat} {x : Str} {e : Expr} {m : Mx Vl} {p pos pos' : Pos} (T : Xo X.K X.mg x (fx c)) (tk : Takes X W) (he : FE X P e m) (hc : X.calm = true := by rfl) (hg : Gl X x := by rfl)
    (hs : starEach [e] X.env = (false, eval e X.env) :: starEach [] X.env := by rfl) (hdb : (x == ("__debug__" : Str)) = false := by decide) :
    FS X P fx W (.Raise (some (.Call (.Name x p) [e] [] pos')) none pos) (sRaise c m) := by
  obtain ⟨B, nI, iI, bmB, F, q⟩ := T.F
  refine PS.imp (ps_raise hc tk (SkE.pmk_own1 F q T.g T.kp (raises_own T.h1 T.h2) hg he hs hdb)) ?_
  rintro D σ H ⟨M, r, ss, rw, o, I, e, q⟩
  unfold sRaise at e
  split at e
  next y rw1 e1 =>
    cases e
    exact ⟨M, r, ss, rw, y, rw1, I, e1, fun v H1 k1 I1 hv => q σ _ none H1 (Gr.ofR k1 I1) I1 ⟨rfl, .inl ⟨rfl, rfl⟩⟩⟩
  next => cases e

/-! ### try -/
variable {M : Addr → Prop} {r : Option Addr} {σ : St} {H : Hp} {ss : List Sl} {rw : Ro}
theorem own_setno {i : Nat} {v : Option V} (hi : ss[i]? = some .no) : ∀ a, Own (σ.set i v) ss a ↔ Own σ ss a := fun a => by
  constructor
  · rintro ⟨j, ds, h1, h2⟩
    have nj : i ≠ j := fun z => by subst z; rw [hi] at h1; cases h1
    rw [List.getElem?_set_ne nj] at h2
    exact ⟨j, ds, h1, h2⟩
  · rintro ⟨j, ds, h1, h2⟩
    have nj : i ≠ j := fun z => by subst z; rw [hi] at h1; cases h1
    exact ⟨j, ds, h1, by rw [List.getElem?_set_ne nj]; exact h2⟩
theorem ER.setno (I : ER P M r σ H ss rw) {i : Nat} (v : Option V) (hi : ss[i]? = some .no) : ER P M r (σ.set i v) H ss rw := by
  have ne : ∀ {j : Nat} {s : Sl}, ss[j]? = some s → s ≠ .no → i ≠ j := fun h1 h2 z => by
    subst z
    rw [hi] at h1
    cases h1
    exact h2 rfl
  have sub : Same (hdn (Msk M r σ ss) H) (hdn (Msk M r (σ.set i v) ss) H) := mk_sub fun a z => by
    rcases z with z | z | z
    · exact .inl z
    · exact .inr (.inl z)
    · exact .inr (.inr ((own_setno hi a).mp z))
  refine ⟨by rw [List.length_set]; exact I.len, fun j y h => ?_, fun j ds h => ?_, fun j h => ?_, fun a h => ?_, I.m0, fun j k a ds es h1 h2 h3 h4 => ?_⟩
  · obtain ⟨u, h1, h2⟩ := I.sl j y h
    exact ⟨u, by rw [List.getElem?_set_ne (ne h (by simp))]; exact h1, VR.mono sub h2⟩
  · obtain ⟨a, us, h1, h2, h3, h4⟩ := I.ow j ds h
    exact ⟨a, us, by rw [List.getElem?_set_ne (ne h (by simp))]; exact h1, h2, drAll_mono sub _ _ h3, h4⟩
  · obtain ⟨a, h1, h2⟩ := I.rs j h
    exact ⟨a, h1, by rw [List.getElem?_set_ne (ne h (by simp))]; exact h2⟩
  · obtain ⟨h1, sa, h2, h3⟩ := I.rk a h
    exact ⟨h1, sa, h2, sub.seq h3⟩
  · rw [List.getElem?_set_ne (ne h1 (by simp))] at h3
    rw [List.getElem?_set_ne (ne h2 (by simp))] at h4
    exact I.inj j k a ds es h1 h2 h3 h4
def noAt (ss : List Sl) (i : Nat) : Bool := match ss[i]? with
  | some .no => true
  | _ => false
theorem noAt_eq {ss : List Sl} {i : Nat} (h : noAt ss i = true) : ss[i]? = some .no := by
  unfold noAt at h
  split at h
  next e => exact e
  next => cases h
/-- try: body, except T as e: a suite that returns what sx tells of the exception -/
def sTry (i : Nat) (mb : Sx) (sx : Exn → Option Vl) : Sx := fun ss rw => match mb ss rw with
  | some (.er ex ss1 rw1) => if noAt ss1 i = true then (match sx ex with
    | some x => some (.rt x rw1)
    | none => none) else none
  | o => o
/-- what the suite is handed: e in slot i -/
def tSuite (P : Pm) (fx : Nat → Addr) (i : Nat) (sx : Exn → Option Vl) (a : Addr) (cls : Value) (d : Option Addr) : TS := fun D σ H => ∃ M r ss rw ex x, ER P M r σ H ss rw ∧ ss[i]? = some .no ∧ σ[i]? = some (some (.ref a)) ∧ ExR P fx ex cls d H ∧ sx ex = some x ∧
  ∀ v H', KeepR r H H' → ER P M r σ H' ss rw → VR P (hdn (fun b => M b ∨ r = some b) H') v x → D.rt v H'
abbrev WF : WX := fun _ _ _ _ => False
theorem takesF {X : Cx} : Takes X WF := fun u s' ⟨_, _, _, _, _, _, _, _, _, _, _, _, _, _, _, _, w⟩ => w.elim
theorem fs_try {i : Nat} {x n : Str} {c : Value} {body suite : List Stmt} {b₀ : Stmt} {np pos pos' : Pos} {mb : Sx} {sx : Exn → Option Vl} (hs : X.stack = X.env :: X.outer) (hf : X.env.frame = some X.env.locals) (hN : X.N.Nodup) (hi : X.N[i]? = some n) (hln : X.env.kindOf n = some .local) (hc : Names X x c)
    (hm : ∀ ex y, sx ex = some y → PySem.W.exmOne X.K (.ref (fx ex.c)) c = some true)
    (hb : ∀ (W : WX) (pn : List (Addr × Obj)) (xe : Value → Shared → Prop), Takes (X.tr pn xe) W → PassesOwn (model X.prog X.w) X.A X.env xe → FSs (X.tr pn xe) P fx W body mb)
    (hsu : ∀ (a : Addr) (oe : Obj) (cls : Value) (d : Option Addr) (pn : List (Addr × Obj)), Zc cls d oe → (∃ vs, oe.data = .fields vs) → PSs (X.suite a ((a, oe) :: pn)) (b₀ :: suite) (tSuite P fx i sx a cls d)) :
    FS X P fx W (.Try body [.ExceptHandler (some (.Name x np)) (some n) (b₀ :: suite) pos'] [] [] pos) (sTry i mb sx) := by
  refine PS.imp (ps_try_as hs hf hN hi hln hc takesF hb hsu) ?_
  rintro D σ H ⟨M, r, ss, rw, o, I, e, q⟩
  unfold sTry at e
  split at e
  next ex ss1 rw1 e1 =>
    split at e
    next hno =>
      split at e
      next x ex1 =>
        cases e
        have hn : ss1[i]? = some .no := noAt_eq hno
        refine ⟨M, r, ss, rw, _, I, e1, fun σ' cls d H' g' I' hx => ?_⟩
        refine ⟨true, by rw [hx.1]; exact hm ex x ex1, fun _ a ha => ?_, fun z => by cases z⟩
        have hl : i < σ'.length := by
          rw [I'.len]
          exact (List.getElem?_eq_some_iff.mp hn).1
        refine ⟨M, r, ss1, rw1, ex, x, I'.setno _ hn, hn, List.getElem?_set_self hl, hx, ex1, fun v H2 k2 I2 hv => ?_⟩
        have g2 : Gr r σ' H' ss1 (σ'.set i (some (.ref a))) H2 ss1 := by
          have g := Gr.ofR (ss := ss1) k2 I2
          exact ⟨fun b o h1 h2 h3 => k2 b o h1 h2, fun b z => .inl ((own_setno hn b).mp z), g.live⟩
        exact q v H2 (g'.trans g2).keep (g'.trans g2).live I2.rowAt hv
      next => cases e
    next => cases e
  next hne =>
    refine ⟨M, r, ss, rw, o, I, e, ?_⟩
    cases o with
    | nx ss1 rw1 => exact q
    | bk ss1 rw1 => exact q
    | ct ss1 rw1 => exact q
    | rt x rw1 => exact q
    | rl ds rw1 => exact q
    | er x ss1 rw1 => exact absurd e (hne x ss1 rw1)
end

/-! ### isinstance of the caught one -/
section
variable {X : Cx} {a D : Addr} {oe : Obj} {pn : List (Addr × Obj)} {i : Nat} {x n : Str} {G : St → Prop}
/-- an expression that is the bool b, where the frame is so -/
def tB0 (G : St → Prop) (b : Bool) : TE := fun σ H Q => G σ ∧ Q (.bl b) H
theorem pb_or {ea eb : Expr} {rest : List Expr} {pos : Pos} {b1 b2 : Bool} (h1 : PE X ea (tB0 G b1)) (h2 : PE X (.BoolOp .Or (eb :: rest) pos) (tB0 G b2)) : PE X (.BoolOp .Or (ea :: eb :: rest) pos) (tB0 G (b1 || b2)) := by
  refine PE.imp (pe_or h1 h2) ?_
  rintro σ H Q ⟨g, q⟩
  refine ⟨g, b1, rfl, ?_⟩
  cases b1
  · exact L2.iteF ⟨g, q⟩
  · exact L2.iteT q
theorem pb_and {ea eb : Expr} {rest : List Expr} {pos : Pos} {b1 b2 : Bool} (h1 : PE X ea (tB0 G b1)) (h2 : PE X (.BoolOp .And (eb :: rest) pos) (tB0 G b2)) : PE X (.BoolOp .And (ea :: eb :: rest) pos) (tB0 G (b1 && b2)) := by
  refine PE.imp (pe_and h1 h2) ?_
  rintro σ H Q ⟨g, q⟩
  refine ⟨g, b1, rfl, ?_⟩
  cases b1
  · exact L2.iteF q
  · exact L2.iteT ⟨g, q⟩
theorem pb_one {ea : Expr} {op : BoolOp} {pos : Pos} {t : TE} (h : PE X ea t) : PE X (.BoolOp op [ea] pos) t := pe_one h
theorem pb_not {ea : Expr} {pos : Pos} {b1 : Bool} (h1 : PE X ea (tB0 G b1)) : PE X (.UnaryOp .Not ea pos) (tB0 G (!b1)) := by
  refine PE.imp (pe_not h1) ?_
  rintro σ H Q ⟨g, q⟩
  exact ⟨g, b1, rfl, q⟩
theorem pb_var {j : Nat} {y : Str} {p : Pos} {b : Bool} (hv : PE X (.Name y p) (tVar j)) (hG : ∀ σ, G σ → σ[j]? = some (some (.bl b))) : PE X (.Name y p) (tB0 G b) := by
  refine PE.imp hv ?_
  rintro σ H Q ⟨g, q⟩
  exact ⟨_, hG σ g, q⟩
/-- isinstance(e, a class of the program) -/
theorem pb_isC {C2 : Addr} {x2 : Str} {b : Bool} {p p1 p2 pos : Pos} (T : ExcC X.K D) (hz : Zc (.ref D) none oe) (hf : ∃ vs, oe.data = .fields vs) (hv : PE (X.suite a ((a, oe) :: pn)) (.Name x p1) (tVar i)) (hG : ∀ σ, G σ → σ[i]? = some (some (.ref a)))
    (hm : X.mg "isinstance" = none) (g2 : X.mg x2 = some (.ref C2)) (k : PySem.W.kitOne X.K (.ref D) (.ref C2) = some b) (hg : Gl X "isinstance" := by rfl) (hg2 : Gl X x2 := by rfl) (hd2 : (x2 == ("__debug__" : Str)) = false := by decide)
    (h1 : starEach [.Name x p1, .Name x2 p2] X.env = (false, eval (.Name x p1) X.env) :: starEach [.Name x2 p2] X.env := by rfl) (h2 : starEach [.Name x2 p2] X.env = (false, eval (.Name x2 p2) X.env) :: starEach [] X.env := by rfl)
    (hpl : (backTo pos (starEach [.Name x2 p2] X.env)).any (·.1) = false := by rfl) : PE (X.suite a ((a, oe) :: pn)) (.Call (.Name "isinstance" p) [.Name x p1, .Name x2 p2] [] pos) (tB0 G b) := by
  refine PE.imp (pe_callB (call_isE T hz hf) hg hm (by decide +kernel) (pa_cons hv (pa_cons (pe_glob (v := .ref C2) hg2 g2 rfl hd2) pa_nil h2) h1) (by decide) (by decide) h1 hpl) ?_
  rintro σ H Q ⟨g, q⟩
  exact ⟨_, hG σ g, .ref C2, .ref C2, b, rfl, fun u hu => hu, k, q⟩
/-- isinstance(e, a built-in one) -/
theorem pb_isT {T2 : String} {x2 : Str} {b : Bool} {p p1 p2 pos : Pos} (T : ExcC X.K D) (hz : Zc (.ref D) none oe) (hf : ∃ vs, oe.data = .fields vs) (hv : PE (X.suite a ((a, oe) :: pn)) (.Name x p1) (tVar i)) (hG : ∀ σ, G σ → σ[i]? = some (some (.ref a)))
    (hm : X.mg "isinstance" = none) (hm2 : X.mg x2 = none) (hv2 : bootBuiltins x2 = some (.type T2)) (k : PySem.W.kitOne X.K (.ref D) (.type T2) = some b) (hg : Gl X "isinstance" := by rfl) (hg2 : Gl X x2 := by rfl) (hn2 : x2 ≠ "__name__" := by decide) (hd2 : (x2 == ("__debug__" : Str)) = false := by decide)
    (h1 : starEach [.Name x p1, .Name x2 p2] X.env = (false, eval (.Name x p1) X.env) :: starEach [.Name x2 p2] X.env := by rfl) (h2 : starEach [.Name x2 p2] X.env = (false, eval (.Name x2 p2) X.env) :: starEach [] X.env := by rfl)
    (hpl : (backTo pos (starEach [.Name x2 p2] X.env)).any (·.1) = false := by rfl) : PE (X.suite a ((a, oe) :: pn)) (.Call (.Name "isinstance" p) [.Name x p1, .Name x2 p2] [] pos) (tB0 G b) := by
  refine PE.imp (pe_callB (call_isE T hz hf) hg hm (by decide +kernel) (pa_cons hv (pa_cons (pe_bltn (v := .ty T2) hg2 hm2 hv2 rfl hn2 hd2) pa_nil h2) h1) (by decide) (by decide) h1 hpl) ?_
  rintro σ H Q ⟨g, q⟩
  exact ⟨_, hG σ g, .ty T2, .type T2, b, rfl, fun u hu => hu, k, q⟩
end
end FL
/-! A test that looks at an own list as a whole; the law's own def. -/
namespace FL
open PySem L2
section
variable {P : Pm} {X : Cx} {fx : Nat → Addr} {W : WX} {M : Addr → Prop} {r : Option Addr} {σ : St} {H : Hp} {ss : List Sl} {rw : Ro}
/-- the row's slots forgotten -/
def noRow (ss : List Sl) : List Sl := ss.map fun s => match s with
  | .row => .no
  | s => s
theorem noRow_at {i : Nat} {s : Sl} (h : (noRow ss)[i]? = some s) (hs : s ≠ .no) : ss[i]? = some s := by
  unfold noRow at h
  rw [List.getElem?_map] at h
  cases e : ss[i]? with
  | none => rw [e] at h; cases h
  | some t =>
    rw [e] at h
    cases t with
    | row => cases h; exact absurd rfl hs
    | no => cases h; exact absurd rfl hs
    | vl x => cases h; rfl
    | own ds => cases h; rfl
theorem noRow_own {i : Nat} {ds : List PyData} (h : ss[i]? = some (.own ds)) : (noRow ss)[i]? = some (.own ds) := by
  unfold noRow
  rw [List.getElem?_map, h]
  rfl
theorem ER.noRow (I : ER P M r σ H ss rw) (rw' : Ro) : ER P (fun a => M a ∨ r = some a) none σ H (noRow ss) rw' := by
  have own1 : ∀ a, Own σ (FL.noRow ss) a → Own σ ss a := fun a ⟨j, ds, h1, h2⟩ => ⟨j, ds, noRow_at h1 (by simp), h2⟩
  have sub : Same (hdn (Msk M r σ ss) H) (hdn (Msk (fun a => M a ∨ r = some a) none σ (FL.noRow ss)) H) := mk_sub fun a z => by
    rcases z with (z | z) | z | z
    · exact .inl z
    · exact .inr (.inl z)
    · cases z
    · exact .inr (.inr (own1 a z))
  refine ⟨by unfold FL.noRow; rw [List.length_map]; exact I.len, fun j y h => ?_, fun j ds h => ?_, fun j h => ?_, fun a h => (nomatch h), fun a z => ?_, fun j k a ds es h1 h2 => I.inj j k a ds es (noRow_at h1 (by simp)) (noRow_at h2 (by simp))⟩
  · obtain ⟨u, h1, h2⟩ := I.sl j y (noRow_at h (by simp))
    exact ⟨u, h1, VR.mono sub h2⟩
  · obtain ⟨a, us, h1, h2, h3, h4, h5⟩ := I.ow j ds (noRow_at h (by simp))
    exact ⟨a, us, h1, h2, drAll_mono sub _ _ h3, fun z => z.elim h4 h5, by simp⟩
  · unfold FL.noRow at h
    rw [List.getElem?_map] at h
    cases e : ss[j]? with
    | none => rw [e] at h; cases h
    | some t =>
      rw [e] at h
      cases t <;> cases h
  · rcases z with z | z
    · exact I.m0 a z
    · obtain ⟨_, sa, e, _⟩ := I.rk a z
      rw [e]
      simp
/-- a test that looks at the own list in slot i as at data; it leaves all as it was -/
def mBor (i : Nat) (m : Mx Bool) : Mx Bool := fun ss rw => match m (noRow (frz i ss)) (0, 0) with
  | some (b, _) => some (b, rw)
  | none => none
theorem ft_bor (i : Nat) {e : Expr} {m : Mx Bool} (h : FT X P e m) : FT X P e (mBor i m) := by
  refine PT.imp h ?_
  rintro σ H Q ⟨M, r, ss, rw, b, rw', I, e, q⟩
  unfold mBor at e
  split at e
  next b' rw1 e1 =>
    cases e
    exact ⟨_, none, _, (0, 0), b, rw1, (I.frz i).1.noRow (0, 0), e1, fun H1 k1 _ => q H1 (KeepR.of fun b o e => k1 b o e (by simp)) (I.grow fun b o e => k1 b o e (by simp))⟩
  next => cases e

/-! ### the law -/
def ssT (n : Nat) : List Sl := .no :: .row :: List.replicate (n - 2) .no
def bodyT (n : Nat) (m : Sx) : Option Vl := match m (ssT n) (0, 0) with
  | some (.rt x _) => some x
  | _ => none
/-- the script's numbers: the law tells True -/
def spT (K : PySem.W.Frag) (F : List Int → Option Vl) : Sp := fun vs H Q _ => ∃ sa ns, vs = [.ref sa] ∧ SqL K H sa (ns.map V.int) ∧ F ns = some (.dat (.bool true)) ∧ ∀ H', Q (.bl true) H'
def t0 : TS := tAsg (tLst (tCons (tVar 0) (tCons (tC (.int 0)) (tCons (tC (.int 0)) tNil)))) (gName 1)
variable {Pg : Program} {w : World} {K : PySem.W.Frag} {mg : Str → Option Value} {base : Heap} {C : Addr} {qual x y : Str} {st : Stmt} {f : Addr} {fd : FuncData} {N : List Str} {k : Nat} {m : List Int → Sx}
theorem er_T {ns : List Int} {sa p : Addr} {n : Nat} (hp : H p = none) (hs : SqL K H sa (ns.map V.int)) :
    ER (pm K ns C) (fun _ => False) (some p) ((some (V.ref sa)) :: (some (V.ref p)) :: List.replicate n none) (upd H p (.lst [.ref sa, .int 0, .int 0])) (.no :: .row :: List.replicate n .no) (0, 0) := by
  have at_ : ∀ {i : Nat} {s : Sl}, ((.no :: .row :: List.replicate n .no : List Sl))[i]? = some s → (i = 1 ∧ s = .row) ∨ s = .no := fun {i s} e => by
    match i, e with
    | 0, e => cases e; exact .inr rfl
    | 1, e => cases e; exact .inl ⟨rfl, rfl⟩
    | i + 2, e =>
      rw [List.getElem?_cons_succ, List.getElem?_cons_succ] at e
      have := List.mem_of_getElem? e
      rw [List.mem_replicate] at this
      exact .inr this.2
  have no_own : ∀ (σ : St) a, ¬ Own σ (.no :: .row :: List.replicate n .no) a := fun σ a ⟨i, ds, e, _⟩ => by
    rcases at_ e with ⟨_, z⟩ | z <;> cases z
  refine ⟨by simp, fun i y e => ?_, fun i ds e => ?_, fun i e => ?_, fun a e => ?_, fun a z => z.elim, fun i j a ds es e => ?_⟩
  · rcases at_ e with ⟨_, z⟩ | z <;> cases z
  · rcases at_ e with ⟨_, z⟩ | z <;> cases z
  · rcases at_ e with ⟨z, _⟩ | z
    · subst z
      exact ⟨p, rfl, rfl⟩
    · cases z
  · cases e
    refine ⟨fun z => z, sa, upd_same, ?_⟩
    have s1 : Same H (hdn (Msk (fun _ => False) (some p) ((some (V.ref sa)) :: (some (V.ref p)) :: List.replicate n none) (.no :: .row :: List.replicate n .no)) (upd H p (.lst [.ref sa, .int 0, .int 0]))) := fun b o e => by
      have nb : b ≠ p := ne_of_none e hp
      refine mk_some.mpr ⟨fun z => ?_, by rw [upd_ne nb]; exact e⟩
      rcases z with z | z | z
      · exact z
      · exact nb (Option.some.inj z).symm
      · exact no_own _ _ z
    exact s1.seq hs
  · rcases at_ e with ⟨_, z⟩ | z <;> cases z
theorem fn_T (F : Fun K x qual st f fd) (S : FnScope N [y] (defScope st)) (hk : 2 ≤ N.length)
    (hb : ∀ (ns : List Int) (cdv : Value) (A : Around) (outer : List Env) (s : Shared) (H : Hp) (E : XK), Room k (A.deeper (PyProof.Rows.envOfC qual (defScope st) s.heap.objs.size f cdv)) →
      PSs (cxOf CX0 Pg w K mg base N qual (defScope st) f cdv A outer s H E).nox (defBody st) (tSeq t0 (tS (pm K ns C) fx W0 (m ns)))) :
    FnOk Pg w K mg base CX0 (k + 1) f fd [y] (spT K fun ns => bodyT N.length (m ns)) := by
  refine F.ok S (fun vs H Q E h => ?_) (fun cdv A outer s H vs Q E hr h => ?_)
  · obtain ⟨sa, ns, rfl, _⟩ := h
    rfl
  · obtain ⟨sa, ns, rfl, hs, hF, q⟩ := h
    refine ⟨_, hb ns cdv A outer s H E hr, ?_⟩
    have e0 : L2.start N [V.ref sa] = some (V.ref sa) :: none :: List.replicate (N.length - 2) none := by
      unfold L2.start
      have e2 : N.length - [V.ref sa].length = (N.length - 2) + 1 := by simp; omega
      rw [e2]
      rfl
    rw [e0]
    refine ⟨_, rfl, show (3 : Nat) ≤ sizeLine by decide, fun p hp => ?_⟩
    have I := er_T (C := C) (n := N.length - 2) hp hs
    replace hF : bodyT N.length (m ns) = some (.dat (.bool true)) := hF
    unfold bodyT at hF
    split at hF
    next x rw' e =>
      cases hF
      refine ⟨_, some p, _, (0, 0), _, I, e, fun v H' _ _ _ hv => ?_⟩
      have := vr_bool hv
      subst this
      exact q H'
    next => cases hF
end
end FL
namespace FL
open PySem L2
/-- a promise that is never asked -/
theorem dn_none {Pg : Program} {w : World} {K : PySem.W.Frag} {mg : Str → Option Value} {base : Heap} {P : Pm} {x : Str} {st : Stmt} {ps : List Str} {k : Nat} (h : Hr K mg x st) (B : Bnd ps x st) : Dn Pg w K mg base CX0 k x ps (spP P fun _ => none) := by
  obtain ⟨f, fd, F, h1⟩ := h
  have no : ∀ vs H Q E, ¬ spP P (fun _ => none) vs H Q E := fun vs H Q E h => by
    obtain ⟨S, xs, y, _, _, z, _⟩ := h
    cases z
  exact ⟨f, fd, ⟨fun vs H Q E h => (no _ _ _ _ h).elim, fun A outer s H args us vs Q E _ _ _ _ h => (no _ _ _ _ h).elim⟩, h1, F.kp, F.binds B⟩
end FL
namespace FL
open PySem L2
/-! ### what the top has left: facts as they are wanted -/
inductive EnL (P : Params) : List DictEntry → List (Str × Int) → Prop
  | nil : EnL P [] []
  | cons {x : Str} {v : Int} {t t' : Tok} {r : List DictEntry} {k : List (Str × Int)} (h : EnL P r k) : EnL P ({ hash := PyData.keyHash P x, key := .str x t, val := .int v t' } :: r) ((x, v) :: k)
theorem EnL.lit {P : Params} {es : List DictEntry} {kvs : List (Str × Int)} (h : EnL P es kvs) : PySem.W.KeysLit P es := by
  induction h with
  | nil => exact True.intro
  | cons h ih => exact ⟨⟨_, _, rfl, rfl⟩, ih⟩
theorem EnL.find {P : Params} {es : List DictEntry} {kvs : List (Str × Int)} (h : EnL P es kvs) (z : Str) : (kvs.lookup z = none → es.find? (·.key.isStr z) = none) ∧ ∀ v, kvs.lookup z = some v → ∃ e t, es.find? (·.key.isStr z) = some e ∧ e.val = .int v t := by
  induction h with
  | nil => exact ⟨fun _ => rfl, fun v e => nomatch e⟩
  | @cons x v t t' r k h ih =>
    have key : (Value.str x t).isStr z = (z == x) := by
      show (x == z) = (z == x)
      exact Bool.beq_comm
    rw [List.find?_cons, List.lookup_cons]
    have key' : ({ hash := PyData.keyHash P x, key := .str x t, val := .int v t' } : DictEntry).key.isStr z = (z == x) := key
    rw [key']
    cases z == x with
    | true =>
      refine ⟨fun e => ?_, fun v' e => ⟨_, t', rfl, ?_⟩⟩
      · cases e
      · cases e
        rfl
    | false => exact ih
theorem EnL.noRef {P : Params} {es : List DictEntry} {kvs : List (Str × Int)} (h : EnL P es kvs) : es.any (·.refKey) = false := by
  induction h with
  | nil => rfl
  | cons h ih =>
    rw [List.any_cons, ih]
    rfl
theorem gd_mk {K : PySem.W.Frag} {w : World} {mg : Str → Option Value} {x : Str} {kvs : List (Str × Int)} {a : Addr} {n : Nat} {es : Array DictEntry} (hm : mg x = some (.ref a)) (hl : K.lookup a = some ⟨.type "dict", none, .dict es n, #[]⟩) (h : EnL w.params es.toList kvs) (hs : (a == sysModules) = false) : Gd K w mg x kvs := by
  refine ⟨a, es, n, hm, ⟨hl, h.lit, hs⟩, fun z => ⟨fun e => ?_, fun v e => ?_⟩⟩
  · unfold PySem.W.nsIn
    rw [hl]
    show (match es.toList.find? (·.key.isStr z) with | some e => some (some e.val) | none => if es.toList.any (·.refKey) then none else some none) = _
    rw [(h.find z).1 e, h.noRef]
    rfl
  · obtain ⟨en, t, h1, h2⟩ := (h.find z).2 v e
    refine ⟨t, ?_⟩
    unfold PySem.W.nsIn
    rw [hl]
    show (match es.toList.find? (·.key.isStr z) with | some e => some (some e.val) | none => if es.toList.any (·.refKey) then none else some none) = _
    rw [h1]
    show some (some en.val) = _
    rw [h2]
theorem dr_ktup {K : PySem.W.Frag} {H : Hp} {a : Addr} {od : Option Addr} {es : Array Value} {n : Nat} {sl : Array (Option Value)} {vs : List V} {ds : List PyData} (hl : K.lookup a = some ⟨.type "tuple", od, .seq es n, sl⟩) (hv : Vals vs es.toList) (hz : es.size ≤ sizeLine) (hd : DRAll K H vs ds) : DR K H (.ref a) (.tuple ds) :=
  DR.tup (.inr ⟨_, es, n, hl, rfl, rfl, hz, hv⟩) hd
theorem kit_self {K : PySem.W.Frag} {C : Addr} : PySem.W.kitOne K (.ref C) (.ref C) = some true := by
  unfold PySem.W.kitOne
  rw [if_pos (beq_self_eq_true _)]
theorem kit_ref {K : PySem.W.Frag} {C D : Addr} {b : Bool} (hn : ((Value.ref C : Value) == .ref D) = false) (h1 : (PySem.W.clsIn K D).isSome = true) (h2 : PySem.W.typeIn K (.ref D) = some (.type "type")) (h3 : PySem.W.subIn K (.ref C) (.ref D) = some b) : PySem.W.kitOne K (.ref C) (.ref D) = some b := by
  unfold PySem.W.kitOne
  rw [hn, if_neg Bool.false_ne_true]
  show (if ((PySem.W.clsIn K D).isSome && PySem.W.typeIn K (.ref D) == some (.type "type")) = true then PySem.W.subIn K (.ref C) (.ref D) else none) = some b
  rw [h1, h2, if_pos (by rfl), h3]
theorem kit_typ {K : PySem.W.Frag} {C : Addr} {T : String} {b : Bool} (h3 : PySem.W.subIn K (.ref C) (.type T) = some b) (hm : PySem.W.kitMeta T = true) : PySem.W.kitOne K (.ref C) (.type T) = some b := by
  unfold PySem.W.kitOne
  rw [if_neg (by intro z; cases z)]
  show (if PySem.W.kitMeta T = true then PySem.W.subIn K (.ref C) (.type T) else none) = some b
  rw [if_pos hm, h3]
end FL
/-! sorted(set(list of pairs)): a new list, rising, each once. -/
namespace L2
open PySem PySem.Spec PyProof.Rows
section
def twoOf (l : List Int) : Int × Int := (l.getD 0 0, l.getD 1 0)
theorem lk_mem : ∀ {L : List (Addr × List Int)} {a : Addr} {k : List Int}, L.lookup a = some k → (a, k) ∈ L
  | [], _, _, h => by cases h
  | (b, j) :: L, a, k, h => by
    rw [List.lookup_cons] at h
    by_cases e : (a == b) = true
    · rw [e] at h
      have e' : a = b := by simpa using e
      cases h
      rw [e']
      exact List.mem_cons_self
    · have e2 : (a == b) = false := by simpa using e
      rw [e2] at h
      exact List.mem_cons_of_mem _ (lk_mem h)
theorem lk_some : ∀ {L : List (Addr × List Int)} {q : Addr × List Int}, q ∈ L → ∃ k, L.lookup q.1 = some k
  | [], _, h => by cases h
  | (b, j) :: L, q, h => by
    rw [List.lookup_cons]
    by_cases e : (q.1 == b) = true
    · rw [e]; exact ⟨j, rfl⟩
    · have e2 : (q.1 == b) = false := by simpa using e
      rw [e2]
      rcases List.mem_cons.mp h with z | z
      · rw [z] at e2; simp at e2
      · exact lk_some z
def keyV (L : List (Addr × List Int)) (v : Value) : Int × Int := match v with
  | .ref a => twoOf ((L.lookup a).getD [])
  | _ => (0, 0)
variable {P : Program} {w : World} {A : Around} {E : Value → Shared → Prop} {s : Shared}
theorem keyV_of {L : List (Addr × List Int)} {h : Heap} (tp : ∀ q ∈ L, IsT P w h q.2 q.1) {q : Addr × List Int} (hq : q ∈ L) : keyV L (.ref q.1) = twoOf q.2 := by
  obtain ⟨k, hk⟩ := lk_some hq
  have t1 := tp _ (lk_mem hk)
  have t2 := tp _ hq
  have e : k = q.2 := IsTupleKey.inj t1 t2
  show twoOf ((L.lookup q.1).getD []) = _
  rw [hk, e]
  rfl
theorem pair_at {h : Heap} {b : Addr} {i j : Int} (x : IsT P w h [i, j] b) : Srt.IsPair h (.ref b) i j := by
  obtain ⟨c, xs, e, ⟨o, ho, hc, n, hd⟩, ia⟩ := tupInts_of x
  cases e
  obtain ⟨ys⟩ := xs
  rcases ia with _ | ⟨ia1⟩
  rename_i ia1
  rcases ia1 with _ | ⟨ia2⟩
  rename_i ia2
  cases ia2
  exact ⟨_, o, _, _, n, rfl, ho, hc, hd⟩
theorem sort_of_set {a : Addr} {L : List (Addr × List Int)} {es : Array (Int × Value)} {ep : Nat} {t : SetTable} {Q : Value → Shared → Prop} (R : SetTR P w s.heap a L es ep t) (hh : A.handled = none) (h2 : ∀ q ∈ L, ∃ i j, q.2 = [i, j])
    (hQ : ∀ (s' : Shared) (p : Addr) (out : List Value) (c : Nat), (∀ b o, s.heap.get? b = some o → s'.heap.get? b = some o) → s'.gens = s.gens → s'.os = s.os → s.heap.objs.size ≤ p → s'.heap.get? p = some (seqObj "list" out.toArray c) →
      out.Perm (L.map fun q => Value.ref q.1) → SrtO.Srtd (fun v u => SrtO.lexB (keyV L v) (keyV L u)) out → Q (.ref p) s') : wpAny (model P w) A (call (.builtin "sorted") [.ref a]) Q E s := by
  have few := R.few
  have sz := R.size
  obtain ⟨o, ho, ex, hd⟩ := R.ob
  apply Calls.call_function_entry kind_sorted plain_sorted entry_sorted (args_sorted1 (.ref a))
  unfold Builtin.«sorted»
  apply wpAny_bind (m := checkCount "sorted" 1 1 _); apply wpAny_pure
  refine wpAny_bind ?_
  refine collect_set (A := A.in1) hh ⟨o, ho, ex.1, hd⟩ R.fits (by unfold scanBound; omega) R.tab.ris R.led ?_
  intro s1 vs k1 hz g1 o1 pm
  have he : es.toList.map (·.2) = L.map fun q => Value.ref q.1 := by
    rw [R.rows]; unfold rowsOf; rw [List.map_map]; rfl
  rw [he] at pm
  have lv : vs.length < 64 := by rw [pm.length_eq, List.length_map]; exact few
  have hl : vs.length ≤ sizeLine := by rw [sizeLine_eq]; omega
  refine wpAny_bind (wpAny_newList ?_ hl)
  have at1 : (s1.heap.push (seqObj "list" vs.toArray 0)).get? s1.heap.objs.size = some (seqObj "list" vs.toArray 0) := Heap.get?_push_size _ rfl
  have up : ∀ b u, s.heap.get? b = some u → (s1.heap.push (seqObj "list" vs.toArray 0)).get? b = some u := fun b u e => Heap.get?_push_of_some _ (k1 b u e)
  have pr : ∀ v ∈ vs, Srt.IsPair (s1.heap.push (seqObj "list" vs.toArray 0)) v (keyV L v).1 (keyV L v).2 := fun v hv => by
    obtain ⟨q, hq, e⟩ := List.mem_map.mp (pm.mem_iff.mp hv)
    obtain ⟨i, j, e2⟩ := h2 q hq
    rw [← e, keyV_of R.tup hq, e2]
    have x := isT_keep (R.tup q hq) up
    rw [e2] at x
    exact pair_at x
  have srt : 2 ≤ vs.length → SrtO.SortableO P w A.in1.in1 { s1 with heap := s1.heap.push (seqObj "list" vs.toArray 0) } s1.heap.objs.size vs fun v u => SrtO.lexB (keyV L v) (keyV L u) := fun l2 =>
    SrtO.pairs_sortableO (by omega) pr fun o e => by
      have e' : some o = some (seqObj "list" vs.toArray 0) := e.symm.trans at1
      cases e'
      intro c
      exact absurd (Value.type.inj c) (by decide)
  have go := SrtO.list_sort_ord (s := { s1 with heap := s1.heap.push (seqObj "list" vs.toArray 0) }) (prog := P) (w := w) (A := A.in1.in1) (E := E) (R := fun f s2 => ∃ v, f = .done (.ret v) ∧ (fun _ s3 => Q (.ref s1.heap.objs.size) s3) v s2) (SrtO.swo_lex (keyV L)) at1 hl srt fun out hs hb => by
    refine ⟨_, rfl, ?_⟩
    obtain ⟨c, hc⟩ := sortedHeap_at (vs := vs) (out := out.toArray) at1
    refine hQ _ _ out c (fun b u e => ?_) g1 o1 hz hc (hb.perm.trans pm) hs
    have lt1 := Heap.lt_size (k1 b u e)
    refine (sortedHeap_old (Nat.ne_of_lt lt1) ?_).trans (up b u e)
    exact Heap.lt_size (up b u e)
  refine wpAny_bind (wpAny_holding ?_)
  refine wpAny_mono (wpAny_call_entry (Q := fun _ s3 => Q (.ref s1.heap.objs.size) s3) slot_list_sort ⟨_, at1, rfl⟩ entry_list_sort go (args_list_sort (.ref s1.heap.objs.size))) ?_ ?_
  · intro v s2 q
    exact wpAny_pure ⟨_, rfl, q⟩
  · intro v s2 q
    exact q
end
end L2
/-! sorted(set(pairs)) over the layer; try .. except without a name. -/
namespace FL
open PySem L2
/-! ### rising lists of pairs -/
def insP (p : Int × Int) : List (Int × Int) → List (Int × Int)
  | [] => [p]
  | q :: l => if p = q then q :: l else if SrtO.lexB p q = true then p :: q :: l else q :: insP p l
def sortP (l : List (Int × Int)) : List (Int × Int) := l.foldr insP []
def UpP (l : List (Int × Int)) : Prop := l.Pairwise fun p q => SrtO.lexB p q = true
theorem mem_insP {x p : Int × Int} : ∀ {l : List (Int × Int)}, x ∈ insP p l ↔ x = p ∨ x ∈ l
  | [] => by simp [insP]
  | q :: l => by
    unfold insP
    split
    next h => subst h; simp
    next h =>
      split
      next h2 => simp
      next h2 =>
        rw [List.mem_cons, mem_insP, List.mem_cons]
        constructor
        · rintro (h | h | h)
          · exact .inr (.inl h)
          · exact .inl h
          · exact .inr (.inr h)
        · rintro (h | h | h)
          · exact .inr (.inl h)
          · exact .inl h
          · exact .inr (.inr h)
theorem lex_trans {p q r : Int × Int} (h1 : SrtO.lexB p q = true) (h2 : SrtO.lexB q r = true) : SrtO.lexB p r = true := by
  have a := SrtO.lexB_iff.mp h1
  have b := SrtO.lexB_iff.mp h2
  exact SrtO.lexB_iff.mpr (by omega)
theorem lex_tri {p q : Int × Int} (h1 : p ≠ q) (h2 : ¬ SrtO.lexB p q = true) : SrtO.lexB q p = true := by
  refine SrtO.lexB_iff.mpr ?_
  have a : ¬ (p.1 < q.1 ∨ (p.1 = q.1 ∧ p.2 < q.2)) := fun z => h2 (SrtO.lexB_iff.mpr z)
  have b : ¬ (p.1 = q.1 ∧ p.2 = q.2) := fun z => h1 (Prod.ext z.1 z.2)
  omega
theorem up_insP {p : Int × Int} : ∀ {l : List (Int × Int)}, UpP l → UpP (insP p l)
  | [], _ => List.pairwise_singleton _ _
  | q :: l, h => by
    obtain ⟨h1, h2⟩ := List.pairwise_cons.mp h
    unfold insP
    split
    next e => exact h
    next e =>
      split
      next e2 => exact List.pairwise_cons.mpr ⟨fun x hx => by
        rcases List.mem_cons.mp hx with z | z
        · rw [z]; exact e2
        · exact lex_trans e2 (h1 x z), h⟩
      next e2 => exact List.pairwise_cons.mpr ⟨fun x hx => by
        rcases mem_insP.mp hx with z | z
        · rw [z]; exact lex_tri e e2
        · exact h1 x z, up_insP h2⟩
theorem up_sortP : ∀ l : List (Int × Int), UpP (sortP l)
  | [] => .nil
  | p :: l => up_insP (up_sortP l)
theorem mem_sortP {x : Int × Int} : ∀ {l : List (Int × Int)}, x ∈ sortP l ↔ x ∈ l
  | [] => by simp [sortP]
  | p :: l => by
    show x ∈ insP p (sortP l) ↔ _
    rw [mem_insP, mem_sortP, List.mem_cons]
theorem lex_irr (p : Int × Int) : ¬ SrtO.lexB p p = true := fun h => by
  have := SrtO.lexB_iff.mp h
  omega
theorem up_one : ∀ {l m : List (Int × Int)}, UpP l → UpP m → (∀ x, x ∈ l ↔ x ∈ m) → l = m
  | [], [], _, _, _ => rfl
  | [], q :: m, _, _, h => absurd ((h q).mpr List.mem_cons_self) (by simp)
  | p :: l, [], _, _, h => absurd ((h p).mp List.mem_cons_self) (by simp)
  | p :: l, q :: m, hl, hm, h => by
    obtain ⟨l1, l2⟩ := List.pairwise_cons.mp hl
    obtain ⟨m1, m2⟩ := List.pairwise_cons.mp hm
    have e : p = q := by
      rcases List.mem_cons.mp ((h p).mp List.mem_cons_self) with z | z
      · exact z
      · rcases List.mem_cons.mp ((h q).mpr List.mem_cons_self) with y | y
        · exact y.symm
        · exact absurd (lex_trans (m1 p z) (l1 q y)) (lex_irr q)
    subst e
    rw [up_one l2 m2 fun x => ?_]
    constructor
    · intro hx
      rcases List.mem_cons.mp ((h x).mp (List.mem_cons_of_mem _ hx)) with z | z
      · subst z; exact absurd (l1 _ hx) (lex_irr _)
      · exact z
    · intro hx
      rcases List.mem_cons.mp ((h x).mpr (List.mem_cons_of_mem _ hx)) with z | z
      · subst z; exact absurd (m1 _ hx) (lex_irr _)
      · exact z
/-! ### data -/
def pairD (p : Int × Int) : PyData := .tuple [.int p.1, .int p.2]
def pair? : PyData → Option (Int × Int)
  | .tuple [.int i, .int j] => some (i, j)
  | _ => none
def pairs? : List PyData → Option (List (Int × Int))
  | [] => some []
  | d :: ds => match pair? d, pairs? ds with
    | some p, some ps => some (p :: ps)
    | _, _ => none
theorem pair?_eq {d : PyData} {p : Int × Int} (h : pair? d = some p) : d = pairD p := by
  unfold pair? at h
  split at h
  next => cases h; rfl
  next => cases h
theorem pairs?_eq : ∀ {ds : List PyData} {ps : List (Int × Int)}, pairs? ds = some ps → ds = ps.map pairD
  | [], _, h => by cases h; rfl
  | d :: ds, _, h => by
    unfold pairs? at h
    split at h
    next p ps e1 e2 =>
      cases h
      rw [pair?_eq e1, pairs?_eq e2]
      rfl
    next => cases h
theorem pairs?_map : ∀ (ps : List (Int × Int)), pairs? (ps.map pairD) = some ps
  | [] => rfl
  | p :: ps => by
    rw [List.map_cons]
    unfold pairs?
    rw [pairs?_map ps]
    rfl
def sortSetD : Vl → Option Vl
  | .dat (.list ds) => match pairs? ds with
    | some ks => if ks.length < 64 then some (.dat (.list ((sortP ks).map pairD))) else none
    | none => none
  | _ => none
theorem dr_pair {K : PySem.W.Frag} {H : Hp} {v : V} {p : Int × Int} (h : DR K H v (pairD p)) : ∃ b, v = .ref b ∧ SqT K H b ([p.1, p.2].map V.int) := by
  unfold pairD at h
  cases h with
  | tup h1 h2 =>
    have e := DRAll.ints_inv (ns := [p.1, p.2]) h2
    rw [e] at h1
    exact ⟨_, rfl, h1⟩
theorem dr_pairs {K : PySem.W.Frag} {H : Hp} : ∀ {ps : List (Int × Int)} {vs : List V}, DRAll K H vs (ps.map pairD) → ∃ ks : List (Addr × List Int), vs = ks.map (fun q => V.ref q.1) ∧ ks.map (·.2) = ps.map (fun p => [p.1, p.2]) ∧ ∀ q ∈ ks, SqT K H q.1 (q.2.map V.int)
  | [], _, h => by cases h; exact ⟨[], rfl, rfl, fun q hq => by cases hq⟩
  | p :: ps, _, h => by
    cases h with
    | cons h1 h2 =>
      obtain ⟨b, rfl, hb⟩ := dr_pair h1
      obtain ⟨ks, rfl, e2, e3⟩ := dr_pairs h2
      refine ⟨(b, [p.1, p.2]) :: ks, rfl, by rw [List.map_cons, e2]; rfl, fun q hq => ?_⟩
      rcases List.mem_cons.mp hq with z | z
      · rw [z]; exact hb
      · exact e3 q z
/-! ### sorted of the set -/
def keyA (L : List (Addr × List Int)) (a : Addr) : Int × Int := twoOf ((L.lookup a).getD [])
def rSortSP (K : PySem.W.Frag) (P : Program) (w : World) : List V → Hp → VK → Prop := fun vs H Q => ∃ (a : Addr) (L : List (Addr × List Int)), vs = [V.ref a] ∧ H a = some (SetTO P w a L) ∧ (∀ q ∈ L, SqT K H q.1 (q.2.map V.int)) ∧ (∀ q ∈ L, ∃ i j, q.2 = [i, j]) ∧
  ∀ (as : List Addr) (p : Addr), as.Perm (L.map (·.1)) → (as.map (keyA L)).Pairwise (fun x y => SrtO.lexB y x = false) → (L.map (·.2)).Nodup → (∀ q ∈ L, keyA L q.1 = twoOf q.2) → H p = none → Q (.ref p) (upd H p (.lst (as.map V.ref)))
def adrOf : Value → Addr
  | .ref a => a
  | _ => 0
theorem refs_eq : ∀ out : List Value, (∀ u ∈ out, ∃ x, u = Value.ref x) → out = (out.map adrOf).map Value.ref
  | [], _ => rfl
  | u :: out, h => by
    obtain ⟨x, rfl⟩ := h u List.mem_cons_self
    rw [List.map_cons, List.map_cons, ← refs_eq out fun v hv => h v (List.mem_cons_of_mem _ hv)]
    rfl
theorem cr_sortSP {X : Cx} (hc : X.calm = true) : CallR X (.builtin "sorted") (rSortSP X.K X.prog X.w) := by
  rintro pins s σ H vs us Q I r ⟨a, L, rfl, ha, hk, h2, q⟩
  have R0 : SetT0 X.prog X.w s.heap a L := (I.hok a _ ha).1
  have tp : ∀ q ∈ L, IsT X.prog X.w s.heap q.2 q.1 := fun q hq => I.isT (hk q hq)
  obtain ⟨es, ep, t, R⟩ := R0.full tp
  rw [Vals.ref1 r]
  refine sort_of_set R (I.ok.hd hc) h2 fun s' p out c k g o hp hg pm srt => ?_
  have all : ∀ u ∈ out, ∃ x, u = Value.ref x := fun u hu => by
    obtain ⟨q, _, e⟩ := List.mem_map.mp (pm.mem_iff.mp hu)
    exact ⟨q.1, e.symm⟩
  have eo := refs_eq out all
  have few : out.length < 64 := by rw [pm.length_eq, List.length_map]; exact R.few
  have hv : ∀ as : List Addr, Vals (as.map V.ref) (as.map Value.ref) := fun as => by
    induction as with
    | nil => exact .nil
    | cons b as ih => exact .cons rfl ih
  have pa : (out.map adrOf).Perm (L.map (·.1)) := by
    have := pm.map adrOf
    rw [List.map_map] at this
    exact this
  have J : Inv X pins σ (upd H p (.lst ((out.map adrOf).map V.ref))) { s with heap := s'.heap, gens := s'.gens, drawn := s'.drawn, toks := s'.toks } := by
    refine I.call (ch := []) (Un.laid k hp (I.hok.fresh hp)) (I.hok.laid k hp ⟨?_, out, c, ?_, hg⟩) (by rw [g]; exact I.bare) (fun _ z => nomatch z)
    · rw [List.length_map, List.length_map, sizeLine_eq]; omega
    · have := hv (out.map adrOf)
      rw [← eo] at this
      exact this
  have e : s' = { s with heap := s'.heap, gens := s'.gens, drawn := s'.drawn, toks := s'.toks } := by
    cases s'; cases s; cases o; rfl
  rw [e]
  refine ⟨.ref p, _, J, rfl, q _ p pa ?_ R.nd (fun q hq => keyV_of (P := X.prog) (w := X.w) tp hq) (I.hok.fresh hp)⟩
  rw [eo] at srt
  have s2 : ((out.map adrOf).map Value.ref).Pairwise fun v u => SrtO.lexB (keyV L u) (keyV L v) = false := srt
  rw [List.pairwise_map] at s2
  exact List.pairwise_map.mpr s2
section
variable {P : Pm} {X : Cx} {e : Expr} {fa : Mx Vl} {p p2 pos pos2 : Pos}
theorem two_inj {q r : List Int} (hq : ∃ i j, q = [i, j]) (hr : ∃ i j, r = [i, j]) (h : twoOf q = twoOf r) : q = r := by
  obtain ⟨i, j, rfl⟩ := hq
  obtain ⟨k, l, rfl⟩ := hr
  have h : (i, j) = (k, l) := h
  cases h
  rfl
theorem drAll_pairs {K : PySem.W.Frag} {H : Hp} {L : List (Addr × List Int)} (key : ∀ q ∈ L, keyA L q.1 = twoOf q.2) (two : ∀ q ∈ L, ∃ i j, q.2 = [i, j]) (tq : ∀ q ∈ L, SqT K H q.1 (q.2.map V.int)) :
    ∀ as : List Addr, (∀ b ∈ as, ∃ q ∈ L, q.1 = b) → DRAll K H (as.map V.ref) (as.map (pairD ∘ keyA L))
  | [], _ => .nil
  | b :: as, mem => by
    refine .cons ?_ (drAll_pairs key two tq as fun c hc => mem c (List.mem_cons_of_mem _ hc))
    obtain ⟨q5, hq5, rfl⟩ := mem b List.mem_cons_self
    obtain ⟨i, j, e8⟩ := two q5 hq5
    have t5 := tq q5 hq5
    have e9 : keyA L q5.1 = (i, j) := by rw [key q5 hq5, e8]; rfl
    show DR K _ _ (pairD (keyA L q5.1))
    rw [e9]
    rw [e8] at t5
    exact DR.tup t5 (DRAll.ints [i, j])
theorem fe_sortSet (hu : X.A.units + 64 < cLine) (he : FE X P e fa) (hm : X.mg "sorted" = none) (hm2 : X.mg "set" = none) (hc : X.calm = true := by rfl) (hK : X.K = P.K := by rfl) (hg : Gl X "sorted" := by rfl) (hg2 : Gl X "set" := by rfl)
    (he0 : starEach [e] X.env = (false, eval e X.env) :: starEach [] X.env := by rfl) (hpl : (backTo pos2 (starEach [] X.env)).any (·.1) = false := by rfl)
    (he1 : starEach [.Call (.Name "set" p2) [e] [] pos2] X.env = (false, eval (.Call (.Name "set" p2) [e] [] pos2) X.env) :: starEach [] X.env := by rfl) (hpl1 : (backTo pos (starEach [] X.env)).any (·.1) = false := by rfl) :
    FE X P (.Call (.Name "sorted" p) [.Call (.Name "set" p2) [e] [] pos2] [] pos) (m1 sortSetD fa) := by
  refine PE.imp (pe_callB (cr_sortSP hc) hg hm (by decide +kernel) (pa_cons (pe_callTy (cr_setOfT hc hu) hg2 hm2 (by decide +kernel) (pa_cons he pa_nil he0) (by decide) (by decide) he0 hpl) pa_nil he1) (by decide) (by decide) he1 hpl1) ?_
  rw [hK]
  rintro σ H Q ⟨M, r, ss, rw, z, rw', I, e, q⟩
  obtain ⟨y, rw1, e1, e⟩ := bnd_some e
  obtain ⟨e2, rfl⟩ := opt_some e
  refine ⟨M, r, ss, rw, y, _, I, e1, fun v H1 k1 I1 hv => ?_⟩
  unfold sortSetD at e2
  split at e2
  next ds =>
    split at e2
    next ks ek =>
      split at e2
      next hl =>
        cases e2
        have hS := I1.alloc
        rw [pairs?_eq ek] at hv
        obtain ⟨a, vs, rfl, ha, hd⟩ := vr_lst hv
        obtain ⟨qs, rfl, eq2, hq⟩ := dr_pairs hd
        have two : ∀ q ∈ qs, ∃ i j, q.2 = [i, j] := fun q hq' => by
          have : q.2 ∈ ks.map (fun p => [p.1, p.2]) := by rw [← eq2]; exact List.mem_map.mpr ⟨q, hq', rfl⟩
          obtain ⟨p, _, ep⟩ := List.mem_map.mp this
          exact ⟨_, _, ep.symm⟩
        refine ⟨a, qs, rfl, SqL.of (mk_le _ H1 _ _ ha), fun q hq' => sqT_mono (mk_le _ H1) (hq q hq'), ?_, fun s L hs hL1 hL2 => ?_⟩
        · have := congrArg List.length eq2
          rw [List.length_map, List.length_map] at this
          omega
        · have s1 : Same H1 (upd H1 s (SetTO X.prog X.w s L)) := upd_same' hs
          refine ⟨s, L, rfl, upd_same, fun q hq' => sqT_mono s1 (sqT_mono (mk_le _ H1) (hq q (hL1 q hq'))), fun q hq' => two q (hL1 q hq'), fun as p pm srt nd key hp => ?_⟩
          have s2 : Same (upd H1 s (SetTO X.prog X.w s L)) (upd (upd H1 s (SetTO X.prog X.w s L)) p (.lst (as.map V.ref))) := upd_same' hp
          have s3 := s1.trans s2
          have hp1 : H1 p = none := by
            cases z : H1 p with
            | none => rfl
            | some o => rw [s1 p o z] at hp; cases hp
          have ek1 : as.map (keyA L) = sortP ks := by
            refine up_one ?_ (up_sortP ks) fun x => ?_
            · have n1 : (as.map (keyA L)).Nodup := by
                have p1 := pm.map (keyA L)
                rw [List.map_map] at p1
                refine p1.nodup_iff.mpr ?_
                have e3 : L.map (keyA L ∘ fun q => q.1) = (L.map (·.2)).map twoOf := by
                  rw [List.map_map]
                  exact List.map_congr_left fun q hq' => key q hq'
                rw [e3]
                refine List.pairwise_map.mpr (List.Pairwise.imp_of_mem (fun {x y} hx hy hne ez => ?_) nd)
                obtain ⟨q1, hq1, rfl⟩ := List.mem_map.mp hx
                obtain ⟨q2, hq2, rfl⟩ := List.mem_map.mp hy
                exact hne (two_inj (two q1 (hL1 q1 hq1)) (two q2 (hL1 q2 hq2)) ez)
              have n2 := List.Pairwise.and srt n1
              refine n2.imp fun {x y} h => ?_
              have h1 : ¬ SrtO.lexB y x = true := by rw [h.1]; simp
              exact lex_tri (Ne.symm h.2) h1
            · rw [mem_sortP]
              have mem : x ∈ as.map (keyA L) ↔ ∃ q ∈ L, twoOf q.2 = x := by
                constructor
                · intro h
                  obtain ⟨b, hb, e4⟩ := List.mem_map.mp h
                  obtain ⟨q, hq', e5⟩ := List.mem_map.mp (pm.mem_iff.mp hb)
                  exact ⟨q, hq', by rw [← key q hq', e5]; exact e4⟩
                · rintro ⟨q, hq', e4⟩
                  exact List.mem_map.mpr ⟨q.1, pm.mem_iff.mpr (List.mem_map.mpr ⟨q, hq', rfl⟩), by rw [key q hq']; exact e4⟩
              rw [mem]
              constructor
              · rintro ⟨q, hq', rfl⟩
                have : q.2 ∈ ks.map (fun p => [p.1, p.2]) := by rw [← eq2]; exact List.mem_map.mpr ⟨q, hL1 q hq', rfl⟩
                obtain ⟨p, hp', ep⟩ := List.mem_map.mp this
                rw [← ep]
                exact hp'
              · intro hx
                have : [x.1, x.2] ∈ qs.map (·.2) := by rw [eq2]; exact List.mem_map.mpr ⟨x, hx, rfl⟩
                obtain ⟨q, hq', e6⟩ := List.mem_map.mp this
                obtain ⟨q3, hq3, e7⟩ := List.mem_map.mp (hL2 q hq')
                exact ⟨q3, hq3, by rw [e7, e6]; rfl⟩
          refine q _ _ (k1.trans (KeepR.of s3)) (I1.grow s3) ?_
          rw [← ek1]
          refine DR.lst (mk_at (not_S hS hp1) upd_same) ?_
          have sub := mk_grow (S := Msk M r σ ss) s3
          rw [List.map_map]
          exact drAll_pairs key (fun q hq' => two q (hL1 q hq')) (fun q hq' => sqT_mono sub (hq q (hL1 q hq'))) as fun b hb => by
            obtain ⟨q, hq', e5⟩ := List.mem_map.mp (pm.mem_iff.mp hb)
            exact ⟨q, hq', e5⟩
      next => cases e2
    next => cases e2
  next => cases e2
end
/-! ### try .. except C: without a name -/
section
variable {P : Pm} {X : Cx} {fx : Nat → Addr} {W : WX}
/-- hx tells, of a class of exceptions, whether the clause takes it -/
def sTryO (mb : Sx) (hx : Nat → Option Bool) (ms : Sx) : Sx := fun ss rw => match mb ss rw with
  | some (.er ex ss1 rw1) => (match hx ex.c with
    | some true => ms ss1 rw1
    | some false => some (.er ex ss1 rw1)
    | none => none)
  | o => o
theorem fs_tryO {x : Str} {c : Value} {body suite : List Stmt} {b₀ : Stmt} {np pos pos' : Pos} {mb ms : Sx} {hx : Nat → Option Bool} (hs : X.stack = X.env :: X.outer) (hf : X.env.frame = some X.env.locals) (hc : Names X x c) (tk : Takes X W)
    (hm : ∀ n b, hx n = some b → PySem.W.exmOne X.K (.ref (fx n)) c = some b)
    (hb : ∀ (W : WX) (pn : List (Addr × Obj)) (xe : Value → Shared → Prop), Takes (X.tr pn xe) W → PassesOwn (model X.prog X.w) X.A X.env xe → FSs (X.tr pn xe) P fx W body mb)
    (hsu : ∀ (a : Addr) (oe : Obj) (cls : Value) (d : Option Addr) (pn : List (Addr × Obj)), Zc cls d oe → (∃ vs, oe.data = .fields vs) → FSs (X.suite a ((a, oe) :: pn)) P fx W (b₀ :: suite) ms) :
    FS X P fx W (.Try body [.ExceptHandler (some (.Name x np)) none (b₀ :: suite) pos'] [] [] pos) (sTryO mb hx ms) := by
  refine PS.imp (ps_try_only (tb := fun W => tS P fx W mb) (ts := fun _ _ _ => tS P fx W ms) hs hf hc tk hb hsu) ?_
  rintro D σ H ⟨M, r, ss, rw, o, I, e, q⟩
  unfold sTryO at e
  split at e
  next ex ss1 rw1 e1 =>
    refine ⟨M, r, ss, rw, _, I, e1, fun σ' cls d H' g' I' hx' => ?_⟩
    split at e
    next hb => exact ⟨true, by rw [hx'.1]; exact hm _ _ hb, fun _ a ha => ⟨M, r, ss1, rw1, o, I', e, OuP.after g' q⟩, fun z => by cases z⟩
    next hb =>
      cases e
      exact ⟨false, by rw [hx'.1]; exact hm _ _ hb, (fun z => by cases z), fun _ => q σ' cls d H' g' I' hx'⟩
    next => cases e
  next hne =>
    refine ⟨M, r, ss, rw, o, I, e, ?_⟩
    cases o with
    | nx ss1 rw1 => exact q
    | bk ss1 rw1 => exact q
    | ct ss1 rw1 => exact q
    | rt x rw1 => exact q
    | rl ds rw1 => exact q
    | er x ss1 rw1 => exact absurd e (hne x ss1 rw1)
end
end FL
/-! zip of a list and two tuples. -/
namespace FL
open PySem L2 PyProof.Rows
/-- the list at p, the tuples at q and r, their items in new threes -/
def ItLTT (K : PySem.W.Frag) (p q r : Addr) : It :=
  ⟨fun i H => ∃ (xs ys zs : List V) (x y z : V), SqL K H p xs ∧ SqT K H q ys ∧ SqT K H r zs ∧ xs[i]? = some x ∧ ys[i]? = some y ∧ zs[i]? = some z,
    fun i H v H' => ∃ t x y z, v = .ref t ∧ H t = none ∧ H' = upd H t (.tup [x, y, z]) ∧ (∀ xs, SqL K H p xs → xs[i]? = some x) ∧ (∀ ys, SqT K H q ys → ys[i]? = some y) ∧ ∀ zs, SqT K H r zs → zs[i]? = some z,
    fun i H => ∃ xs ys zs : List V, SqL K H p xs ∧ SqT K H q ys ∧ SqT K H r zs ∧ i = min (min xs.length ys.length) zs.length⟩
theorem six {c z TI TO i1 i2 i3 : Addr} (h : c ∈ [z, TI, TO, i1, i2, i3]) : c = z ∨ c = TI ∨ c = TO ∨ c = i1 ∨ c = i2 ∨ c = i3 := by simpa using h
theorem turn_LTT {Pg : Program} {w : World} {K : PySem.W.Frag} {elts : List Expr} {kk : Nat} {tpos : Pos} {p q r z TI TO i1 i2 i3 : Addr} (D : ZipSep3 z TI TO i1 i2 i3 [i1, p] [i2, q] [i3, r]) (n1 : p ≠ i1) (n2 : q ≠ i2) (n3 : r ≠ i3) :
    Turn Pg w K (.Tuple elts kk tpos) (ItLTT K p q r) [z, TI, TO, i1, i2, i3] z (fun i h => IsZip h z TI TO .none ∧ IsTupOf3 h TI (.ref i1) (.ref i2) (.ref i3) ∧ (∃ a b c, IsTupOf3 h TO a b c) ∧ h.IsListIter i1 p i ∧ h.IsTupleIter i2 q i ∧ h.IsTupleIter i3 r i) where
  mem := List.mem_cons_self
  obj := fun i h st c hc => by
    obtain ⟨gz, gi, ⟨x, y, u, gu⟩, j1, j2, j3⟩ := st
    rcases six hc with rfl | rfl | rfl | rfl | rfl | rfl
    · exact ⟨_, gz, fun v z => nomatch z⟩
    · exact ⟨_, gi, fun v z => nomatch z⟩
    · exact ⟨_, gu, fun v z => nomatch z⟩
    · exact stp_list.obj j1
    · exact stp_tup.obj j2
    · exact stp_tup.obj j3
  keep := fun i h h' st k => by
    obtain ⟨gz, gi, ⟨x, y, u, gu⟩, j1, j2, j3⟩ := st
    exact ⟨k z (by simp) _ gz, k TI (by simp) _ gi, ⟨x, y, u, k TO (by simp) _ gu⟩, j1.at fun o e => k i1 (by simp) o e, j2.at fun o e => k i2 (by simp) o e, j3.at fun o e => k i3 (by simp) o e⟩
  item := by
    intro X hP hw hK hc i pins s σ H E I hf st hg
    subst hP hw hK
    obtain ⟨gz, gi, gu, j1, j2, j3⟩ := st
    obtain ⟨xs, ys, zs, x, y, u, hqx, hqy, hqz, hx, hy, hz⟩ := hg
    obtain ⟨us, rv, pl, _⟩ := I.list hqx
    obtain ⟨vs, rv2, pt, _⟩ := I.tuple hqy
    obtain ⟨ws, rv3, pt3, _⟩ := I.tuple hqz
    have l1 := rv.length
    have l2 := rv2.length
    have l3 := rv3.length
    obtain ⟨x', hx', rx⟩ := rv.get hx
    obtain ⟨y', hy', ry⟩ := rv2.get hy
    obtain ⟨u', hz', rz⟩ := rv3.get hz
    have k1 := (List.getElem?_eq_some_iff.mp hx).1
    have k2 := (List.getElem?_eq_some_iff.mp hy).1
    have k3 := (List.getElem?_eq_some_iff.mp hz).1
    have hh := I.ok.hd hc
    have W := WalksT.zipD3 (prog := X.prog) (w := X.w) (A := X.A) D (Draws.list (A := X.A.in1) hh i1 p n1 us.toArray) (Draws.tuple (A := X.A.in1) hh i2 q n2 vs.toArray) (Draws.tuple (A := X.A.in1) hh i3 r n3 ws.toArray)
    refine W.item i s _ E (by simp; omega) ⟨gz, gi, gu, ⟨j1, pl.isList⟩, ⟨j2, show s.heap.IsTuple q vs.toArray from pt⟩, ⟨j3, show s.heap.IsTuple r ws.toArray from pt3⟩⟩ ?_
    rintro T vals h' tk ⟨a, b, c, ea, eb, ec, rfl⟩ hT hTup md kp
    refine ⟨_, rfl, W.go elts kk tpos i T { s with heap := h', toks := tk } _ E md fun h2 st2 kp2 => ?_⟩
    have nT : T ∉ [z, TO, i1, i2, i3] := W.apart i T h' md
    have ea' : x' = a := by simpa [hx'] using ea
    have eb' : y' = b := by simpa [hy'] using eb
    have ec' : u' = c := by simpa [hz'] using ec
    subst ea' eb' ec'
    obtain ⟨oT, ho, hcT, nn, hd⟩ := hTup
    have ob : ObjOk X.prog X.w (upd H T (.tup [x, y, u])) h2 T (.tup [x, y, u]) := ⟨by show 3 ≤ sizeLine; decide, [x', y', u'], .cons rx (.cons ry (.cons rz .nil)), ⟨oT, kp2 T oT nT ho, hcT, nn, hd⟩⟩
    have sub : ∀ c, c ∉ [z, TI, TO, i1, i2, i3] → c ∉ [z, TO, i1, i2, i3] := fun c hb hc => hb (by simp at hc ⊢; rcases hc with h | h | h | h | h <;> simp [h])
    have I1 : Inv X pins σ (upd H T (.tup [x, y, u])) { s with heap := h2, toks := tk } :=
      I.turnedNew (t' := tk) (ch := [z, TI, TO, i1, i2, i3]) (fun c o hb e => kp2 c o (sub c hb) (kp c o (sub c hb) e)) hf hT ob
    obtain ⟨gz2, gi2, gu2, ⟨q1, _⟩, ⟨q2, _⟩, ⟨q3, _⟩⟩ := st2
    refine ⟨.ref T, _, I1, rfl, ⟨_, x, y, u, rfl, I.hok.fresh hT, rfl, fun l hl => by rw [I.list_inj hl hqx]; exact hx, fun l hl => by rw [I.tuple_inj hl hqy]; exact hy, fun l hl => by rw [I.tuple_inj hl hqz]; exact hz⟩, ⟨gz2, gi2, gu2, q1, q2, q3⟩, fun c hcm => ?_⟩
    have lt : c < s.heap.objs.size := by
      rcases six hcm with rfl | rfl | rfl | rfl | rfl | rfl
      · exact Heap.lt_size gz
      · exact Heap.lt_size gi
      · exact Heap.lt_size gu.choose_spec.choose_spec.choose_spec
      · exact Heap.lt_size j1.choose_spec.1
      · exact Heap.lt_size j2.choose_spec.1
      · exact Heap.lt_size j3.choose_spec.1
    rw [upd_ne (Nat.ne_of_lt (Nat.lt_of_lt_of_le lt hT))]
    exact (hf c hcm).1
  done := by
    intro X hP hw hK hc i pins s σ H E I hf st hg
    subst hP hw hK
    obtain ⟨gz, gi, gu, j1, j2, j3⟩ := st
    obtain ⟨xs, ys, zs, hqx, hqy, hqz, he⟩ := hg
    obtain ⟨us, rv, pl, _⟩ := I.list hqx
    obtain ⟨vs, rv2, pt, _⟩ := I.tuple hqy
    obtain ⟨ws, rv3, pt3, _⟩ := I.tuple hqz
    have l1 := rv.length
    have l2 := rv2.length
    have l3 := rv3.length
    have hh := I.ok.hd hc
    have W := WalksT.zipD3 (prog := X.prog) (w := X.w) (A := X.A) D (Draws.list (A := X.A.in1) hh i1 p n1 us.toArray) (Draws.tuple (A := X.A.in1) hh i2 q n2 vs.toArray) (Draws.tuple (A := X.A.in1) hh i3 r n3 ws.toArray)
    have en : i = min (min us.toArray.size vs.toArray.size) ws.toArray.size := by simp; omega
    subst en
    have sub : ∀ c, c ∉ [z, TI, TO, i1, i2, i3] → c ∉ [z, TO, i1, i2, i3] := fun c hb hc => hb (by simp at hc ⊢; rcases hc with h | h | h | h | h <;> simp [h])
    exact W.done s _ E ⟨gz, gi, gu, ⟨j1, pl.isList⟩, ⟨j2, show s.heap.IsTuple q vs.toArray from pt⟩, ⟨j3, show s.heap.IsTuple r ws.toArray from pt3⟩⟩ fun h' tk kp =>
      ⟨rfl, I.turnedL (t' := tk) (ch := [z, TI, TO, i1, i2, i3]) (fun c o hb e => kp c o (sub c hb) e) hf⟩
  self := fun A i s Q E st h => wpAny_pyIter_zip st.1 h
def iZipLTT (K : PySem.W.Frag) (ta : TA) : TI := fun σ H R => ta σ H fun vs H1 => ∃ a b c xs ys zs, vs = [.ref a, .ref b, .ref c] ∧ SqL K H1 a xs ∧ SqT K H1 b ys ∧ SqT K H1 c zs ∧ R (ItLTT K a b c) H1
theorem pi_zipLTT {X : Cx} {e e2 e3 : Expr} {ta : TA} {p pos tpos : Pos} {elts : List Expr} {kk : Nat} (hg : Gl X "zip") (hm : X.mg "zip" = none) (ha : PA X [e, e2, e3] ta)
    (hs : starEach [e, e2, e3] X.env = (false, eval e X.env) :: starEach [e2, e3] X.env := by rfl) (hpl : (backTo pos (starEach [e2, e3] X.env)).any (·.1) = false := by rfl) :
    PI X (.Tuple elts kk tpos) (.Call (.Name "zip" p) [e, e2, e3] [] pos) (iZipLTT X.K ta) := by
  refine ⟨fun pins s σ H R I h => ?_⟩
  refine Call_ (ld_blt I hg hm PyProof.Rows.boot_zip (PyProof.Rows.callWith_type1 (thn (ha.run pos pins s σ H _ I h) fun us s1 ⟨vs, H1, I1, r1, q1⟩ => ?_) hs hpl))
  obtain ⟨a, b, c, xs, ys, zs, ex, hqx, hqy, hqz, q⟩ := q1
  subst ex
  rcases r1 with _ | ⟨r, rr⟩
  rcases rr with _ | ⟨r', rr⟩
  rcases rr with _ | ⟨r'', rr⟩
  cases rr
  cases r
  cases r'
  cases r''
  obtain ⟨its, rv, p1, _⟩ := I1.list hqx
  obtain ⟨its2, rv2, p2, _⟩ := I1.tuple hqy
  obtain ⟨its3, rv3, p3, _⟩ := I1.tuple hqz
  have q2 : s1.heap.IsTuple b its2.toArray := p2
  have q3 : s1.heap.IsTuple c its3.toArray := p3
  have la : a < s1.heap.objs.size := p1.lt
  have lb : b < s1.heap.objs.size := Heap.lt_size q2.choose_spec.1
  have lc : c < s1.heap.objs.size := Heap.lt_size q3.choose_spec.1
  refine zip_begins3 (begins_list a its.toArray) (begins_tuple b its2.toArray) (begins_tuple c its3.toArray) p1.isList q2 q3 fun h' hz hTI hTO g1 g2 g3 hsz hk => wpAny_pyIter_zip hz ?_
  have I2 : Inv X pins σ H1 { s1 with heap := h' } := I1.kept (t' := s1.toks) hk
  have fr : ∀ d, d ∈ [s1.heap.objs.size + 5, s1.heap.objs.size + 3, s1.heap.objs.size + 4, s1.heap.objs.size, s1.heap.objs.size + 1, s1.heap.objs.size + 2] → FpOk X pins H1 d := fun d hd => by
    have hle : s1.heap.objs.size ≤ d := by
      rcases six hd with z | z | z | z | z | z <;> rw [z] <;> first | exact Nat.le_add_right _ _ | exact Nat.le_refl _
    exact I1.fpOk hle (I1.hok.fresh hle)
  have sep := zip_sep3 (N := s1.heap.objs.size) (fp1 := [a]) (fp2 := [b]) (fp3 := [c]) (fun d hd => by rw [List.mem_singleton.mp hd]; exact la) (fun d hd => by rw [List.mem_singleton.mp hd]; exact lb) (fun d hd => by rw [List.mem_singleton.mp hd]; exact lc)
  exact ⟨s1.heap.objs.size + 5, _, _, _, H1, rfl, I2, turn_LTT sep (Nat.ne_of_lt la) (Nat.ne_of_lt (Nat.lt_succ_of_lt lb)) (Nat.ne_of_lt (Nat.lt_succ_of_lt (Nat.lt_succ_of_lt lc))), ⟨hz, hTI, ⟨_, _, _, hTO⟩, ⟨_, g1, rfl, rfl⟩, ⟨_, g2, rfl, rfl⟩, ⟨_, g3, rfl, rfl⟩⟩, fr, q⟩
/-! ### as data -/
def zpD3 : List PyData → List PyData → List PyData → List PyData
  | d :: ds, e :: es, g :: gs => .tuple [d, e, g] :: zpD3 ds es gs
  | _, _, _ => []
theorem zpD3_len : ∀ ds es gs : List PyData, (zpD3 ds es gs).length = min (min ds.length es.length) gs.length
  | [], es, gs => by simp [zpD3]
  | d :: ds, [], gs => by simp [zpD3]
  | d :: ds, e :: es, [] => by simp [zpD3]
  | d :: ds, e :: es, g :: gs => by
    unfold zpD3
    rw [List.length_cons, zpD3_len ds es gs]
    simp only [List.length_cons]
    omega
theorem zpD3_get : ∀ {ds es gs : List PyData} {i : Nat} {d e g : PyData}, ds[i]? = some d → es[i]? = some e → gs[i]? = some g → (zpD3 ds es gs)[i]? = some (.tuple [d, e, g])
  | [], es, gs, i, d, e, g, h, _, _ => by simp at h
  | d :: ds, [], gs, i, _, e, g, _, h, _ => by simp at h
  | d :: ds, e :: es, [], i, _, _, g, _, _, h => by simp at h
  | d :: ds, e :: es, g :: gs, 0, d', e', g', h, h', h'' => by
    simp at h h' h''
    subst h h' h''
    rfl
  | d :: ds, e :: es, g :: gs, i + 1, d', e', g', h, h', h'' => by
    unfold zpD3
    rw [List.getElem?_cons_succ]
    exact zpD3_get (by simpa using h) (by simpa using h') (by simpa using h'')
theorem wlk_LTT {P : Pm} {S : Addr → Prop} {H : Hp} {p q r : Addr} {us vs ws : List V} {ds es gs : List PyData} (hp : SqL P.K (hdn S H) p us) (hq : SqT P.K (hdn S H) q vs) (hr : SqT P.K (hdn S H) r ws)
    (h1 : DRAll P.K (hdn S H) us ds) (h2 : DRAll P.K (hdn S H) vs es) (h3 : DRAll P.K (hdn S H) ws gs) : Wlk P S H (ItLTT P.K p q r) (zpD3 ds es gs) := fun S1 H1 s al => by
  have l1 := DRAll.length h1
  have l2 := DRAll.length h2
  have l3 := DRAll.length h3
  have e1 : SqL P.K H1 p us := (mk_le S1 H1).seq (s.seq hp)
  have e2 : SqT P.K H1 q vs := sqT_mono (mk_le S1 H1) (sqT_mono s hq)
  have e3 : SqT P.K H1 r ws := sqT_mono (mk_le S1 H1) (sqT_mono s hr)
  refine ⟨fun i hi => ?_, ⟨us, vs, ws, e1, e2, e3, by rw [zpD3_len, l1, l2, l3]⟩⟩
  rw [zpD3_len] at hi
  obtain ⟨d, hd⟩ : ∃ d, ds[i]? = some d := ⟨ds[i]'(by omega), List.getElem?_eq_getElem (by omega)⟩
  obtain ⟨e, he⟩ : ∃ e, es[i]? = some e := ⟨es[i]'(by omega), List.getElem?_eq_getElem (by omega)⟩
  obtain ⟨g, hg⟩ : ∃ g, gs[i]? = some g := ⟨gs[i]'(by omega), List.getElem?_eq_getElem (by omega)⟩
  obtain ⟨u, a1, a2⟩ := DRAll.get h1 hd
  obtain ⟨v, b1, b2⟩ := DRAll.get h2 he
  obtain ⟨w, c1, c2⟩ := DRAll.get h3 hg
  refine ⟨⟨us, vs, ws, u, v, w, e1, e2, e3, a1, b1, c1⟩, fun x H' y => ?_⟩
  obtain ⟨T, x1, y1, z1, rfl, hT, rfl, f1, f2, f3⟩ := y
  have g1 := f1 us e1
  have g2 := f2 vs e2
  have g3 := f3 ws e3
  rw [a1] at g1
  rw [b1] at g2
  rw [c1] at g3
  cases g1
  cases g2
  cases g3
  obtain ⟨k1, k2⟩ := new_tup (P := P) al (.cons (dr_mono s _ _ a2) (.cons (dr_mono s _ _ b2) (.cons (dr_mono s _ _ c2) .nil))) hT
  exact ⟨k1, _, zpD3_get hd he hg, k2⟩
def mZ33 (fa fb fc : Mx Vl) : Mx (List PyData) := bnd fa fun x => bnd fb fun y => bnd fc fun z => opt (match x, y, z with
  | .dat (.list ds), .dat (.tuple es), .dat (.tuple gs) => some (zpD3 ds es gs)
  | _, _, _ => none)
theorem fi_zip33 {P : Pm} {X : Cx} {a b c : Expr} {fa fb fc : Mx Vl} {p pos tpos : Pos} {elts : List Expr} {kk : Nat} (ha : FE X P a fa) (hb : FE X P b fb) (hc : FE X P c fc) (hm : X.mg "zip" = none) (hK : X.K = P.K := by rfl) (hg : Gl X "zip" := by rfl)
    (hs : starEach [a, b, c] X.env = (false, eval a X.env) :: starEach [b, c] X.env := by rfl) (hs2 : starEach [b, c] X.env = (false, eval b X.env) :: starEach [c] X.env := by rfl) (hs3 : starEach [c] X.env = (false, eval c X.env) :: starEach [] X.env := by rfl)
    (hpl : (backTo pos (starEach [b, c] X.env)).any (·.1) = false := by rfl) :
    FI X P (.Tuple elts kk tpos) (.Call (.Name "zip" p) [a, b, c] [] pos) (mZ33 fa fb fc) := by
  refine PI.imp (pi_zipLTT hg hm (pa_cons ha (pa_cons hb (pa_cons hc pa_nil hs3) hs2) hs) hs hpl) ?_
  rw [hK]
  rintro σ H R ⟨M, r0, ss, rw, xs, rw', I, e, q⟩
  obtain ⟨y1, rw1, e1, e⟩ := bnd_some e
  obtain ⟨y2, rw2, e2, e⟩ := bnd_some e
  obtain ⟨y3, rw3, e3, e⟩ := bnd_some e
  obtain ⟨e4, rfl⟩ := opt_some e
  refine ⟨M, r0, ss, rw, _, _, I, e1, fun v H1 k1 I1 hv => ⟨M, r0, ss, _, _, _, I1, e2, fun u H2 k2 I2 hu => ⟨M, r0, ss, _, _, _, I2, e3, fun w H3 k3 I3 hw => ?_⟩⟩⟩
  have hv2 := VR.mono k3.msk (VR.mono k2.msk hv)
  have hu2 := VR.mono k3.msk hu
  split at e4
  next ds es gs =>
    cases e4
    obtain ⟨p1, vs, rfl, h1, h2⟩ := vr_lst hv2
    obtain ⟨p2, us, rfl, g1, g2⟩ := vr_tup hu2
    obtain ⟨p3, ws, rfl, f1, f2⟩ := vr_tup hw
    exact ⟨p1, p2, p3, vs, us, ws, rfl, SqL.of (mk_le _ H3 _ _ h1), sqT_mono (mk_le _ H3) g1, sqT_mono (mk_le _ H3) f1, q _ H3 ((k1.trans k2).trans k3) I3 (wlk_LTT (SqL.of h1) g1 f1 h2 g2 f2)⟩
  next => cases e4
end FL
/-! set of a list of ints; sorted of it. -/
namespace L2
open PySem PySem.Spec PyProof.Rows
abbrev nuO (w : World) : Obj := { cls := .type "set", dict := none, data := .set #[] 0 (.fresh 0 0 (!w.params.followText "set-order")) }
section
variable {P : Program} {w : World} {A : Around} {E : Value → Shared → Prop} {s : Shared}
theorem set_of_list {l : Addr} {xs : Array Value} (ns : List Int) {Q : Value → Shared → Prop} (hh : A.handled = none) (hl : s.heap.IsList l xs) (ht : IntsAre xs.toList ns) (hb : ns.length + 1 < scanBound)
    (fin : ∀ (g : Heap) (tk c : Nat), SetR w g s.heap.objs.size (fun j => decide (j ∈ ns)) c → c ≤ ns.length → (∀ b o, s.heap.get? b = some o → g.get? b = some o) → Q (.ref s.heap.objs.size) { s with heap := g, toks := tk }) :
    wpAny (model P w) A (call (.type "set") [.ref l]) Q E s := by
  have lenE : xs.size = ns.length := by have q := IntsAre.length ht; rw [Array.length_toList] at q; exact q
  obtain ⟨c, tl, hmro⟩ := F.called_set.mro
  have hmade := F.called_set.made; have hsub := F.called_set.sub
  apply wpAny_call; apply codeAny_of_tree
  show wpAny _ _ (callAny (.type "set") ⟨[.ref l], []⟩) _ _ _
  refine wpAny_pure ⟨Code.quiet_builtin _ (by decide +kernel), ?_⟩; apply codeAny_builtin F.entry_type_call
  rw [Around.under_plain (weight_type_call_type "set" [Value.ref l] []) rfl]
  have h1 := F.called_set.notType; have h2 := F.called_set.canCreate; have hct := F.typeCall_set_1 (.ref l)
  repeat (any_goals (first | assumption | wp_step))
  refine codeAny_mono (code_set_led1 (P := P) (w := w) (.ref l) (E := E) (Q₁ := fun v s₁ => v = .ref s.heap.objs.size ∧ s₁ = { s with heap := s.heap.push (nuO w) }) ⟨rfl, rfl⟩) ?_
  intro r s₁ hr
  rcases r with e | fl
  · exact hr
  cases fl <;> first | exact hr.elim | skip
  obtain ⟨rfl, rfl⟩ := hr
  have atS : (s.heap.push (nuO w)).get? s.heap.objs.size = some (nuO w) := Heap.get?_push_size _ rfl
  have hT : Shared.TypeIs { s with heap := s.heap.push (nuO w) } (.ref s.heap.objs.size) "set" := ⟨_, atS, rfl⟩
  have hli := F.called_set.init.lookup; have hbi := F.called_set.init.bind (.ref s.heap.objs.size)
  repeat (any_goals (first | assumption | wp_step))
  refine codeAny_mono (codeAny_call_builtin (R := wants (fun r s₂ => r = .none ∧ ∃ g tk c, s₂ = { s with heap := g, toks := tk } ∧ SetR w g s.heap.objs.size (fun j => decide (j ∈ ns)) c ∧ c ≤ ns.length ∧ ∀ b o, s.heap.get? b = some o → g.get? b = some o) E)
    F.called_set.init.plain F.entry_set_init (check_set_init_1 hT ?_)) ?_
  · obtain ⟨ol, hol, hcl, nl, hdl⟩ := hl
    obtain ⟨oc, od, oD, osl⟩ := ol
    simp only at hcl hdl
    subst hcl hdl
    have hol' : (s.heap.push (nuO w)).get? l = some { cls := .type "list", dict := od, data := .seq xs nl, slots := osl } := Heap.get?_push_of_some _ hol
    have hs1 := F.sub_list_set; have hs2 := F.sub_list_frozenset
    have hne : (Value.type "list" == Value.type "dict") = false := by decide
    have hl1 : (s.heap.push (nuO w)).IsList l xs := ⟨_, hol', rfl, nl, rfl⟩
    unfold Builtin.«set.__init__» noKeywords Builtin.Frozenset.updateFrom
    generalize hPI : pyIter = PI
    wp_walk
    subst hPI
    apply wpAny_pyIter_list hl1; refine wpAny_bind (wpAny_runValue ?_)
    have lS : l < s.heap.objs.size := Heap.lt_size hol
    have hh3 : A.in1.in1.in1.handled = none := by simp [hh]
    have neI : l ≠ (s.heap.push (nuO w)).objs.size := by rw [Heap.size_push]; exact Nat.ne_of_lt (Nat.lt_succ_of_lt lS)
    have sf : s.heap.objs.size ∉ [(s.heap.push (nuO w)).objs.size, l] := fun z => by
      rw [Heap.size_push] at z
      rcases List.mem_cons.mp z with e | e
      · exact absurd e (Nat.ne_of_lt (Nat.lt_succ_self _))
      · exact absurd (List.mem_singleton.mp e) (Nat.ne_of_gt lS)
    have val : ∀ (i : Nat) (v : Value), xs[i]? = some v → ∃ k t, ns[i]? = some k ∧ v = .int k t := fun i v hv => by
      have hi : i < ns.length := by rw [← lenE]; exact (Array.getElem?_eq_some_iff.mp hv).1
      obtain ⟨t, e⟩ := PyProof.Rows.IntsAre.int_at ht i v (by rw [Array.getElem?_toList]; exact hv)
      exact ⟨ns[i], t, List.getElem?_eq_getElem hi, by rw [e, List.getD_eq_getElem?_getD, List.getElem?_eq_getElem hi]; rfl⟩
    have start : ((s.heap.push (nuO w)).push { cls := .type "list_iterator", data := .fields #[.ref l, .int 0 0] }).get? s.heap.objs.size = some (nuO w) := Heap.get?_push_of_some _ atS
    apply set_update_ints ((Walks.list hh3 _ l neI xs).toS) s.heap.objs.size sf ns lenE hb val (xs.size - 0) 0 _ (by omega) (Nat.zero_le _) ⟨⟨_, Heap.get?_push_size _ rfl, rfl, rfl⟩, hl1.push _⟩ ⟨0, Nat.le_refl 0, setR_new_at start⟩
    intro s' c' hm hc' hS'
    obtain ⟨g, g2, d', tk', os'⟩ := s'
    have eg : g2 = s.gens := hm.gens
    have ed : d' = s.drawn := hm.drawn
    have eo : os' = s.os := hm.os
    subst eg ed eo
    show wpAny _ _ _ _ _ _
    apply wpAny_pure
    show wpAny _ _ (ret Value.none) _ _ _
    rw [lenE] at hc'
    refine wpAny_pure ⟨rfl, g, tk', c', rfl, hS', hc', ?_⟩
    intro b o e
    have lb : b < s.heap.objs.size := Heap.lt_size e
    refine hm.heap b o (fun z => ?_) (Heap.get?_push_of_some _ (Heap.get?_push_of_some _ e))
    rcases List.mem_cons.mp z with q | q
    · exact absurd q (Nat.ne_of_lt lb)
    · have q := List.mem_singleton.mp q
      rw [Heap.size_push] at q
      exact absurd q (Nat.ne_of_lt (Nat.lt_succ_of_lt lb))
  · intro r₂ s₂ hr₂
    rcases r₂ with e | fl₂
    · exact hr₂
    cases fl₂ <;> first | exact hr₂.elim | skip
    obtain ⟨rfl, g, tk, c, rfl, hS', hc', hk'⟩ := hr₂
    repeat (any_goals (first | assumption | wp_step))
    exact fin _ _ _ hS' hc' hk'
end
/-- set(xs), xs a list of ints -/
def rSetLI (K : PySem.W.Frag) (w : World) : List V → Hp → VK → Prop := fun vs H Q => ∃ (l : Addr) (ns : List Int), vs = [V.ref l] ∧ SqL K H l (ns.map V.int) ∧ ns.length < 64 ∧ ∀ (a : Addr) (c : Nat), H a = none → c ≤ ns.length → Q (.ref a) (upd H a (SetO w a (fun j => decide (j ∈ ns)) c))
theorem cr_setLI {X : Cx} (hc : X.calm = true) : CallR X (.type "set") (rSetLI X.K X.w) := by
  rintro pins s σ H vs us Q I r ⟨l, ns, rfl, hl, hf, q⟩
  rw [Vals.ref1 r]
  obtain ⟨its, rv, pl, hz⟩ := I.list hl
  have hn : H s.heap.objs.size = none := I.hok.fresh (Nat.le_refl _)
  refine set_of_list ns (I.ok.hd hc) pl.isList (by simpa using RZ.intsAre_vals rv) (by unfold scanBound; omega) fun g tk c R hcn k => ?_
  exact ⟨.ref s.heap.objs.size, upd H s.heap.objs.size (SetO X.w s.heap.objs.size (fun j => decide (j ∈ ns)) c), I.laid (t' := tk) k (Nat.le_refl _) (setO_new R), rfl, q _ c hn hcn⟩
end L2
namespace FL
open PySem L2
/-! ### rising lists of ints -/
def insI (p : Int) : List Int → List Int
  | [] => [p]
  | q :: l => if p = q then q :: l else if p < q then p :: q :: l else q :: insI p l
def sortI (l : List Int) : List Int := l.foldr insI []
theorem mem_insI {x p : Int} : ∀ {l : List Int}, x ∈ insI p l ↔ x = p ∨ x ∈ l
  | [] => by simp [insI]
  | q :: l => by
    unfold insI
    split
    next h => subst h; simp
    next h =>
      split
      next h2 => simp
      next h2 =>
        rw [List.mem_cons, mem_insI, List.mem_cons]
        constructor
        · rintro (h | h | h)
          · exact .inr (.inl h)
          · exact .inl h
          · exact .inr (.inr h)
        · rintro (h | h | h)
          · exact .inr (.inl h)
          · exact .inl h
          · exact .inr (.inr h)
theorem up_insI {p : Int} : ∀ {l : List Int}, l.Pairwise (· < ·) → (insI p l).Pairwise (· < ·)
  | [], _ => List.pairwise_singleton _ _
  | q :: l, h => by
    obtain ⟨h1, h2⟩ := List.pairwise_cons.mp h
    unfold insI
    split
    next e => exact h
    next e =>
      split
      next e2 => exact List.pairwise_cons.mpr ⟨fun x hx => by
        rcases List.mem_cons.mp hx with z | z
        · rw [z]; exact e2
        · exact Int.lt_trans e2 (h1 x z), h⟩
      next e2 => exact List.pairwise_cons.mpr ⟨fun x hx => by
        rcases mem_insI.mp hx with z | z
        · rw [z]; omega
        · exact h1 x z, up_insI h2⟩
theorem up_sortI : ∀ l : List Int, (sortI l).Pairwise (· < ·)
  | [] => .nil
  | p :: l => up_insI (up_sortI l)
theorem mem_sortI {x : Int} : ∀ {l : List Int}, x ∈ sortI l ↔ x ∈ l
  | [] => by simp [sortI]
  | p :: l => by
    show x ∈ insI p (sortI l) ↔ _
    rw [mem_insI, mem_sortI, List.mem_cons]
theorem upI_one : ∀ {l m : List Int}, l.Pairwise (· < ·) → m.Pairwise (· < ·) → (∀ x, x ∈ l ↔ x ∈ m) → l = m
  | [], [], _, _, _ => rfl
  | [], q :: m, _, _, h => absurd ((h q).mpr List.mem_cons_self) (by simp)
  | p :: l, [], _, _, h => absurd ((h p).mp List.mem_cons_self) (by simp)
  | p :: l, q :: m, hl, hm, h => by
    obtain ⟨l1, l2⟩ := List.pairwise_cons.mp hl
    obtain ⟨m1, m2⟩ := List.pairwise_cons.mp hm
    have e : p = q := by
      rcases List.mem_cons.mp ((h p).mp List.mem_cons_self) with z | z
      · exact z
      · rcases List.mem_cons.mp ((h q).mpr List.mem_cons_self) with y | y
        · exact y.symm
        · have a := m1 p z
          have b := l1 q y
          omega
    subst e
    rw [upI_one l2 m2 fun x => ?_]
    constructor
    · intro hx
      rcases List.mem_cons.mp ((h x).mp (List.mem_cons_of_mem _ hx)) with z | z
      · have a := l1 x hx
        omega
      · exact z
    · intro hx
      rcases List.mem_cons.mp ((h x).mpr (List.mem_cons_of_mem _ hx)) with z | z
      · have a := m1 x hx
        omega
      · exact z
def sortSetI : Vl → Option Vl
  | .dat (.list ds) => match ints? ds with
    | some ns => if ns.length < 64 then some (.dat (.list ((sortI ns).map .int))) else none
    | none => none
  | _ => none
section
variable {P : Pm} {X : Cx} {e : Expr} {fa : Mx Vl} {p p2 pos pos2 : Pos}
theorem fe_sortSetI (he : FE X P e fa) (hm : X.mg "sorted" = none) (hm2 : X.mg "set" = none) (hc : X.calm = true := by rfl) (hK : X.K = P.K := by rfl) (hg : Gl X "sorted" := by rfl) (hg2 : Gl X "set" := by rfl)
    (he0 : starEach [e] X.env = (false, eval e X.env) :: starEach [] X.env := by rfl) (hpl : (backTo pos2 (starEach [] X.env)).any (·.1) = false := by rfl)
    (he1 : starEach [.Call (.Name "set" p2) [e] [] pos2] X.env = (false, eval (.Call (.Name "set" p2) [e] [] pos2) X.env) :: starEach [] X.env := by rfl) (hpl1 : (backTo pos (starEach [] X.env)).any (·.1) = false := by rfl) :
    FE X P (.Call (.Name "sorted" p) [.Call (.Name "set" p2) [e] [] pos2] [] pos) (m1 sortSetI fa) := by
  refine PE.imp (pe_callB (cr_sortedSet hc) hg hm (by decide +kernel) (pa_cons (pe_callTy (cr_setLI hc) hg2 hm2 (by decide +kernel) (pa_cons he pa_nil he0) (by decide) (by decide) he0 hpl) pa_nil he1) (by decide) (by decide) he1 hpl1) ?_
  rw [hK]
  rintro σ H Q ⟨M, r, ss, rw, z, rw', I, e, q⟩
  obtain ⟨y, rw1, e1, e⟩ := bnd_some e
  obtain ⟨e2, rfl⟩ := opt_some e
  refine ⟨M, r, ss, rw, y, _, I, e1, fun v H1 k1 I1 hv => ?_⟩
  unfold sortSetI at e2
  split at e2
  next ds =>
    split at e2
    next ns en =>
      split at e2
      next hl =>
        cases e2
        have hS := I1.alloc
        rw [ints?_map en] at hv
        obtain ⟨a, vs, rfl, ha, hd⟩ := vr_lst hv
        have ev := DRAll.ints_inv hd
        subst ev
        refine ⟨a, ns, rfl, SqL.of (mk_le _ H1 _ _ ha), hl, fun s c hs hcn => ?_⟩
        have s1 : Same H1 (upd H1 s (SetO X.w s (fun j => decide (j ∈ ns)) c)) := upd_same' hs
        refine ⟨s, _, c, rfl, upd_same, by omega, fun ms p hup hmem hlen hp => ?_⟩
        have s2 : Same (upd H1 s (SetO X.w s (fun j => decide (j ∈ ns)) c)) (upd (upd H1 s (SetO X.w s (fun j => decide (j ∈ ns)) c)) p (.lst (ms.map V.int))) := upd_same' hp
        have s3 := s1.trans s2
        have hp1 : H1 p = none := by
          cases z : H1 p with
          | none => rfl
          | some o => rw [s1 p o z] at hp; cases hp
        have em : ms = sortI ns := upI_one hup (up_sortI ns) fun x => by
          rw [hmem, mem_sortI]
          simp
        refine q _ _ (k1.trans (KeepR.of s3)) (I1.grow s3) ?_
        rw [← em]
        exact DR.lst (mk_at (not_S hS hp1) upd_same) (DRAll.ints ms)
      next => cases e2
    next => cases e2
  next => cases e2
end
/-! ### // by any number but 0 -/
def fdvnI (i j : Int) : Option PyData := if j ≠ 0 ∧ j.natAbs < 1073741824 then some (.int (i.fdiv j)) else none
def fdvnD := i2 fdvnI
theorem ok_fdvn {P : Pm} : ROk P (rI CDivN fun i j => .int (i.fdiv j)) fdvnD := ok_i2 fun i j d e => by
  unfold fdvnI at e
  split at e
  next h => cases e; exact ⟨h, fun H => .int _⟩
  next => cases e
/-- both readings of sorted(set(..)) -/
def sortSetB (x : Vl) : Option Vl := match sortSetI x with
  | some y => some y
  | none => sortSetD x
end FL
/-! xs.count(x), any data. -/
namespace FL
open PySem PySem.Spec L2 PyProof.Rows
theorem eqv_count {h : Heap} {us : List Value} {ds : List PyData} {as : List Addr} {d : PyData} (rs : ReadsAll h us ds as) (hxs : PyData.canLayAll0 ds = true) : us.countP (fun y => PyData.eqv (SeqAt.readOf h y) d) = ds.countP fun z => PyData.eqv z d := by
  rw [← SeqAt.readsAll_map ds us as hxs rs, List.countP_map]
  rfl
def rCntD (K : PySem.W.Frag) : V → List V → Hp → VK → Prop := fun x xs H Q => ∃ (p : Addr) (y : V) (d : PyData) (ds : List PyData), x = .ref p ∧ xs = [y] ∧ Dp K H (.ref p) (.list ds) ∧ Dp K H y d ∧ SeqAt.shaped (.list ds) = true ∧ SeqAt.shaped d = true ∧ Q (.int (ds.countP fun z => PyData.eqv z d : Nat)) H
theorem mt_cntD {X : Cx} (hu : X.A.units + 65 < cLine) : MtR X "list.count" (rCntD X.K) := by
  rintro pins s σ H x xs v us Q I rx rxs ⟨p, y, d, ds, rfl, rfl, hl, hy, sl, sd, q⟩
  cases rx
  obtain ⟨u, rfl, ru⟩ := rxs.one
  obtain ⟨bs, r1⟩ := Dp.reads I d y u hy ru
  have cl : PyData.canLayAll0 ds = true := SeqAt.canLay_of_shaped sl
  cases hl with
  | lst hs ha =>
    obtain ⟨its, rv, ⟨⟨oc, od, oD, osl⟩, n, ho, hc, hdn, hd⟩, hlen⟩ := I.list hs
    simp only at hc hd
    subst hc hd
    obtain ⟨as, h4⟩ := Dp.readsAll I ds _ its ha rv
    have h5 : ReadsAll s.heap its.toArray.toList ds as := h4
    have go := SeqAt.list_countAt p its.toArray n od osl u fun w => PyData.eqv (SeqAt.readOf s.heap w) d
    refine call_meets PySem.F.slot_list_count ⟨_, ho, rfl⟩ PySem.F.entry_list_count (PySem.F.args_list_count_2 _ _) go ⟨ho, SeqAt.items_eqAt (vs := its.toArray) h5 r1 cl (SeqAt.canLay_of_shaped sd) (room_in_shaped sd hu), ?_⟩
    refine ⟨.int (ds.countP fun z => PyData.eqv z d : Nat), H, I.tok _, ⟨s.toks, ?_⟩, q⟩
    have e := eqv_count (d := d) h5 cl
    show Value.int ((its.toArray.toList.countP _ : Nat) : Int) s.toks = _
    rw [e]
def countD : Vl → Vl → Option Vl
  | .dat (.list ds), .dat d => if SeqAt.shaped (.list ds) = true ∧ SeqAt.shaped d = true then some (.dat (.int (ds.countP fun z => PyData.eqv z d : Nat))) else none
  | _, _ => none
theorem fe_count {P : Pm} {X : Cx} {o e : Expr} {fo fe : Mx Vl} {apos pos : Pos} (hu : X.A.units + 65 < cLine) (ho : FE X P o fo) (he : FE X P e fe) (hK : X.K = P.K := by rfl) (hs : starEach [e] X.env = (false, eval e X.env) :: starEach [] X.env := by rfl)
    (hbase : attributeBase o "count" X.env (eval o X.env) = eval o X.env := by rfl) (hline : (apos.endLine == pos.line) = true := by rfl)
    (hfew : ((backTo pos (starEach [e] X.env)).all (fun x => !x.1) && (backToKw pos (keywordEach [] X.env)).all (fun x => x.1.isSome)
      && decide ([e].length + ([] : List Keyword).length + (if ([] : List Keyword).isEmpty then 0 else 1) < 30)) = true := by rfl) (hplain : (backTo pos (starEach [] X.env)).any (·.1) = false := by rfl) :
    FE X P (.Call (.Attribute o "count" apos) [e] [] pos) (m2 countD fo fe) := by
  refine PE.imp (pe_bm PySem.F.plainAttrs_list PySem.F.slot_list_count PySem.F.type_list_count (mt_cntD hu) ho (pa_cons he pa_nil hs) hbase hfew hline hs hplain) ?_
  rw [hK]
  rintro σ H Q ⟨M, r0, ss, rw, z, rw', I, e, q⟩
  obtain ⟨y, rw1, e1, e⟩ := bnd_some e
  obtain ⟨w, rw2, e2, e⟩ := bnd_some e
  obtain ⟨e3, rfl⟩ := opt_some e
  refine ⟨M, r0, ss, rw, y, _, I, e1, fun v H1 k1 I1 hv => ?_⟩
  unfold countD at e3
  split at e3
  next =>
    rename_i ds d e2'
    split at e3
    next hsd =>
      cases e3
      obtain ⟨p, vs, rfl, h1, h2⟩ := vr_lst hv
      refine ⟨.inl ⟨rfl, vs, SqL.of (mk_le _ H1 _ _ h1)⟩, M, r0, ss, _, _, _, I1, e2, fun u H2 k2 I2 hu => ?_⟩
      have hv2 : DR P.K (hdn (Msk M r0 σ ss) H2) (.ref p) (.list ds) := VR.mono (d := .dat (.list ds)) k2.msk hv
      have hu2 : DR P.K (hdn (Msk M r0 σ ss) H2) u d := hu
      exact ⟨p, u, d, ds, rfl, rfl, dr_dp _ _ (dr_mono (mk_le _ H2) _ _ hv2), dr_dp _ _ (dr_mono (mk_le _ H2) _ _ hu2), hsd.1, hsd.2, q _ H2 (k1.trans k2) I2 (DR.int _)⟩
    next => cases e3
  next => cases e3
end FL
/-! A dict keyed by rooms (tuples of tuples): in, not in, [..], [..] = .. . -/
namespace FD
open PySem PySem.Spec L2
abbrev NK := List (NestedKey × Addr × Addr)
def toH (xs : NK) : List (NestedKey × Addr × Value) := xs.map fun x => (x.1, x.2.1, .ref x.2.2)
/-- the dict at d: its keys as told, where each stands, where each one's value stands -/
def dn (P : Program) (w : World) (d : Addr) (xs : NK) : HO := .ext fun h => ∃ o es ep, h.get? d = some o ∧ o.ExactDict ∧ o.data = .dict es ep ∧ es.toList = (toH xs).map (entryOfKey (nestedKind P w)) ∧ ((toH xs).map (·.1)).Nodup ∧ (d == sysModules) = false ∧ xs.length ≤ sizeLine
section
variable {X : Cx} {pins : List (Addr × Obj)} {σ : St} {H H' : Hp} {s : Shared}
mutual
theorem nest_of (I : Inv X pins σ H s) : ∀ (k : NestedKey) (v : V) (u : Value), Dp X.K H v k.data → RelV v u → NestedIs s.heap k u
  | .none, _, _, h, r => by
    cases h
    cases r
    exact .none
  | .num i, _, _, h, r => by
    cases h
    obtain ⟨t, rfl⟩ := r
    exact .int i t
  | .text x, _, _, h, r => by
    cases h
    obtain ⟨t, rfl⟩ := r
    exact .text x t
  | .tup ks, v, u, h, r => by
    have h : Dp X.K H v (.tuple (NestedKey.datas ks)) := h
    cases h with
    | tup hs ha =>
      cases r
      obtain ⟨its, rv, ⟨o, h1, h2, n, h3⟩, _⟩ := I.tuple hs
      exact .tup h1 h2 h3 (nests_of I ks _ its ha rv)
theorem nests_of (I : Inv X pins σ H s) : ∀ (ks : List NestedKey) (vs : List V) (us : List Value), DpAll X.K H vs (NestedKey.datas ks) → Vals vs us → NestedAll s.heap ks us
  | [], _, _, h, r => by
    cases h
    cases r
    exact .nil
  | k :: ks, vs, us, h, r => by
    have h : DpAll X.K H vs (k.data :: NestedKey.datas ks) := h
    cases h with
    | cons h1 h2 =>
      cases r with
      | cons r1 r2 => exact .cons (nest_of I k _ _ h1 r1) (nests_of I ks _ _ h2 r2)
end
/-- all keys stand there as told -/
def KeysAt (K : PySem.W.Frag) (H : Hp) (xs : NK) : Prop := ∀ x ∈ xs, Dp K H (.ref x.2.1) x.1.data ∧ x.1.depth ≤ 8
/-- the dict at d is this one -/
def DN (P : Program) (w : World) (K : PySem.W.Frag) (H : Hp) (d : Addr) (xs : NK) : Prop := (H d = some (dn P w d xs) ∨ (xs = [] ∧ H d = some (.dK []))) ∧ KeysAt K H xs
def getN (xs : NK) (k : NestedKey) : Option Addr := (xs.find? fun x => decide (x.1 = k)).map (·.2.2)
theorem at_toH (xs : NK) (k : NestedKey) : (atKey (toH xs) k).map (·.2) = (getN xs k).map Value.ref := by
  unfold atKey getN toH
  rw [List.find?_map]
  cases q : List.find? ((fun x : NestedKey × Addr × Value => decide (x.1 = k)) ∘ fun x : NestedKey × Addr × Addr => (x.1, x.2.1, Value.ref x.2.2)) xs with
  | none =>
    have : List.find? (fun x : NestedKey × Addr × Addr => decide (x.1 = k)) xs = none := q
    rw [this]
    rfl
  | some y =>
    have : List.find? (fun x : NestedKey × Addr × Addr => decide (x.1 = k)) xs = some y := q
    rw [this]
    rfl
theorem at_some (xs : NK) (k : NestedKey) : (atKey (toH xs) k).isSome = (getN xs k).isSome := by
  have := congrArg Option.isSome (at_toH xs k)
  rwa [Option.isSome_map, Option.isSome_map] at this
theorem dn_of {d : Addr} {xs : NK} (I : Inv X pins σ H s) (h : DN X.prog X.w X.K H d xs) : s.heap.DictOfH (nestedKind X.prog X.w) d (toH xs) ∧ (d == sysModules) = false ∧ xs.length ≤ sizeLine := by
  obtain ⟨h | ⟨rfl, h⟩, hk⟩ := h
  · obtain ⟨⟨o, es, ep, h1, h2, h3, h4, h5, h6, h7⟩, _⟩ := (show ObjOk X.prog X.w H s.heap d (dn X.prog X.w d xs) from I.hok d _ h)
    refine ⟨⟨o, es, ep, h1, h2, h3, h4, fun x hx => ?_, h5⟩, h6, h7⟩
    obtain ⟨y, hy, rfl⟩ := List.mem_map.mp hx
    obtain ⟨k1, k2⟩ := hk y hy
    exact ⟨nest_of I y.1 _ _ k1 rfl, k2⟩
  · obtain ⟨_, hd, vs, rel, o, es, ep, h1, h2, h3, h4⟩ := (show ObjOk X.prog X.w H s.heap d (.dK []) from I.hok d _ h)
    cases rel
    obtain ⟨_, hp, _⟩ := h4
    have e : es.toList = [] := by
      cases hq : es.toList with
      | nil => rfl
      | cons a b => rw [hq] at hp; cases hp
    exact ⟨⟨o, es, ep, h1, h2, h3, e, fun _ h => absurd h List.not_mem_nil, List.nodup_nil⟩, hd, Nat.zero_le _⟩
end
section
variable {X : Cx}
theorem room_N {A : Around} (hu : A.units + 64 < cLine) : (nestedKind X.prog X.w).room A.in1 := show A.in1.units + 8 < cLine by rw [PyProof.Rows.units_in1]; omega
theorem key_N {pins : List (Addr × Obj)} {σ : St} {H : Hp} {s : Shared} {a : Addr} {k : NestedKey} (I : Inv X pins σ H s) (hk : Dp X.K H (.ref a) k.data) (h8 : k.depth ≤ 8) : (nestedKind X.prog X.w).is s.heap k a := ⟨nest_of I k _ _ hk rfl, h8⟩
def KeyV (K : PySem.W.Frag) (H : Hp) (y : V) (k : NestedKey) : Prop := ∃ a, y = .ref a ∧ Dp K H (.ref a) k.data ∧ k.depth ≤ 8
def rInN (P : Program) (w : World) (K : PySem.W.Frag) : R2 := fun y x H Q => ∃ d xs k, x = .ref d ∧ DN P w K H d xs ∧ KeyV K H y k ∧ Q (.bl (getN xs k).isSome) H
def rNinN (P : Program) (w : World) (K : PySem.W.Frag) : R2 := fun y x H Q => ∃ d xs k, x = .ref d ∧ DN P w K H d xs ∧ KeyV K H y k ∧ Q (.bl (!(getN xs k).isSome)) H
def rIxN (P : Program) (w : World) (K : PySem.W.Frag) : R2 := fun x y H Q => ∃ d xs k v, x = .ref d ∧ DN P w K H d xs ∧ KeyV K H y k ∧ getN xs k = some v ∧ Q (.ref v) H
theorem op_inN (hu : X.A.units + 64 < cLine) : OpR X (compareOp .In) (rInN X.prog X.w X.K) := by
  intro pins s σ H y x v u Q I ry rx h
  obtain ⟨d, xs, k, rfl, hd, ⟨a, rfl, hk, h8⟩, q⟩ := h
  obtain rfl : u = Value.ref d := rx
  obtain rfl : v = Value.ref a := ry
  obtain ⟨dd, hs, _⟩ := dn_of I hd
  refine wpAny_in_heap (room_N hu) (key_N I hk h8) hs dd ?_
  rw [at_some]
  exact ⟨.bl _, H, I.tok _, rfl, q⟩
theorem op_ninN (hu : X.A.units + 64 < cLine) : OpR X (compareOp .NotIn) (rNinN X.prog X.w X.K) := by
  intro pins s σ H y x v u Q I ry rx h
  obtain ⟨d, xs, k, rfl, hd, ⟨a, rfl, hk, h8⟩, q⟩ := h
  obtain rfl : u = Value.ref d := rx
  obtain rfl : v = Value.ref a := ry
  obtain ⟨dd, hs, _⟩ := dn_of I hd
  refine PyProof.Rows.wpAny_notIn_heap (room_N hu) (key_N I hk h8) hs dd ?_
  rw [at_some]
  exact ⟨.bl _, H, I.tok _, rfl, q⟩
theorem ix_N (hu : X.A.units + 64 < cLine) : IxR X (rIxN X.prog X.w X.K) := by
  intro value slice pins s σ H x y v u Q I rx ry h hs
  obtain ⟨d, xs, k, r, rfl, hd, ⟨a, rfl, hk, h8⟩, g, q⟩ := h
  obtain rfl : v = Value.ref d := rx
  obtain rfl : u = Value.ref a := ry
  obtain ⟨dd, hss, _⟩ := dn_of I hd
  have e := at_toH xs k
  rw [g] at e
  obtain ⟨p, hp, hp2⟩ := Option.map_eq_some_iff.mp e
  refine PyProof.Rows.tail_any dd.typeIs PySem.F.slot_dict_getitem.lookup (wpAny_getItem_heap (room_N hu) (key_N I hk h8) dd hp ?_) hs
  rw [hp2]
  exact ⟨.ref r, H, I.tok _, rfl, q⟩
/-- a new key put in -/
theorem stored_new {xs : NK} {k : NestedKey} (h : getN xs k = none) (a v : Addr) : storedH (toH xs) k a (.ref v) = toH (xs ++ [(k, a, v)]) := by
  have : atKey (toH xs) k = none := by
    have := at_some xs k
    rw [h] at this
    simpa using this
  rw [storedH_new this]
  unfold toH
  rw [List.map_append]
  rfl
/-- o[i] = v, a key that isn't there yet -/
def rSetN (P : Program) (w : World) (K : PySem.W.Frag) : TSet := fun o i v H Q => ∃ d xs k a r, o = .ref d ∧ i = .ref a ∧ v = .ref r ∧ DN P w K H d xs ∧ Dp K H (.ref a) k.data ∧ k.depth ≤ 8 ∧ getN xs k = none ∧ xs.length < sizeLine ∧ Q (upd H d (dn P w d (xs ++ [(k, a, r)])))
theorem set_N (hu : X.A.units + 64 < cLine) : PSet X (rSetN X.prog X.w X.K) := by
  intro pins s σ H o i v ov iv u Q I ro ri rv h
  obtain ⟨d, xs, k, a, r, rfl, rfl, rfl, hd, hk, h8, g, hl, q⟩ := h
  obtain rfl : ov = Value.ref d := ro
  obtain rfl : iv = Value.ref a := ri
  obtain rfl : u = Value.ref r := rv
  obtain ⟨dd, hs, hz⟩ := dn_of I hd
  have hz' : (toH xs).length ≤ sizeLine := by unfold toH; rw [List.length_map]; exact hz
  refine wpAny_setItem_heap (hsz := hz') (room_N hu) (key_N I hk h8) dd fun h' dd' hs' => ⟨_, ?_, q⟩
  rw [stored_new g] at dd'
  obtain ⟨ob, es, ep, h1, h2, h3, h4, _, h5⟩ := dd'
  have mu : Mut (H d) := by
    rcases hd.1 with e | ⟨_, e⟩
    · rw [e]; exact True.intro
    · rw [e]; exact True.intro
  refine d_write I mu hs' ⟨ob, h1⟩ ⟨⟨ob, es, ep, h1, h2, h3, h4, h5, hs, by rw [List.length_append]; simp; omega⟩, ⟨ob, h1⟩, ?_⟩
  rintro g1 g2 ⟨o2, es2, ep2, e1, e2⟩ hk2
  exact ⟨o2, es2, ep2, hk2 _ e1, e2⟩
end
end FD
/-! sorted of a dict keyed by rooms. -/
namespace FD
open PySem PySem.Spec L2 PySem.W
mutual
theorem reads_key {h : Heap} : ∀ (k : NestedKey) (v : Value) (as : List Addr), Reads h v k.data as → as = []
  | .none, _, _, r => by cases r; rfl
  | .num i, _, _, r => by cases r; rfl
  | .text x, _, _, r => by cases r; rfl
  | .tup ks, v, as, r => by
    have r : Reads h v (.tuple (NestedKey.datas ks)) as := r
    cases r with
    | tuple _ _ _ hs => exact readsAll_key ks _ _ hs
theorem readsAll_key {h : Heap} : ∀ (ks : List NestedKey) (vs : List Value) (as : List Addr), ReadsAll h vs (NestedKey.datas ks) as → as = []
  | [], _, _, r => by cases r; rfl
  | k :: ks, vs, as, r => by
    have r : ReadsAll h vs (k.data :: NestedKey.datas ks) as := r
    cases r with
    | cons h1 h2 => rw [reads_key k _ _ h1, readsAll_key ks _ _ h2]; rfl
end
theorem kdl_raw {prog : Program} {w : World} {d : Addr} {es : Array DictEntry} {ep : Nat} (lo : (d == sysModules) = false) : KdlSrc prog w "dict" d d es.size (fun i v => ∃ hi : i < es.size, v = es[i].key) (fun h => h.DictRaw d es ep) where
  type := fun _ hm => hm.typeIs
  there := fun _ hm => by
    obtain ⟨o, ho, _⟩ := hm
    exact ⟨Heap.lt_size ho, Heap.lt_size ho⟩
  keep := fun _ _ hm hk => hm.at fun o e => hk d (.inl rfl) o e
  notList := by decide
  notTuple := by decide
  hint := fun _ _ _ _ hm hq => kdl_hint_dict hm.typeIs hq
  iter := fun _ s hh hm => by
    have hlt : d < s.heap.objs.size := by
      obtain ⟨o, ho, _⟩ := hm
      exact Heap.lt_size ho
    exact ⟨_, _, (fun _ _ hq => wpAny_pyIter_dict_raw lo hm hq), Walks.rawKeys hh _ d (Nat.ne_of_lt hlt) es ep, ⟨⟨_, Heap.get?_push_size _ rfl, rfl, rfl⟩, hm.at fun o e => Heap.get?_push_of_some _ e⟩⟩
def rowsE (x : NestedKey × Addr × Addr) : PyData := x.1.data
def sortN (xs : NK) : NK := xs.mergeSort (dataLe false rowsE)
theorem each_at {α β : Type} {R : α → β → Prop} : ∀ {as : List α} {bs : List β}, as.length = bs.length → (∀ (j : Nat) (a : α), as[j]? = some a → ∃ b, bs[j]? = some b ∧ R a b) → EachIs R as bs
  | [], [], _, _ => .nil
  | a :: as, b :: bs, hl, h => by
    obtain ⟨x, e1, e2⟩ := h 0 a rfl
    have : b = x := Option.some.inj e1
    subst this
    exact .cons e2 (each_at (by simpa using hl) fun j c e => by
      obtain ⟨y, f1, f2⟩ := h (j + 1) c (by simpa using e)
      exact ⟨y, by simpa using f1, f2⟩)
  | [], _ :: _, hl, _ => by simp at hl
  | _ :: _, [], hl, _ => by simp at hl
theorem each_vals : ∀ {vs : List Value} {xs : NK}, EachIs (fun (v : Value) (x : NestedKey × Addr × Addr) => v = .ref x.2.1) vs xs → Vals (xs.map fun x => V.ref x.2.1) vs
  | _, _, .nil => .nil
  | _, _, .cons e r => by
    subst e
    exact .cons rfl (each_vals r)
section
variable {X : Cx}
theorem call_sortedN (hcalm : X.calm = true) (hu : X.A.units + 64 < cLine) : CallR X (.builtin "sorted") (fun xs H Q => ∃ d ks, xs = [.ref d] ∧ DN X.prog X.w X.K H d ks ∧ AllAlike (ks.map rowsE) ∧ Sortable (ks.map rowsE) ∧ (∀ x ∈ ks, (rowsE x).depth ≤ 8) ∧
    ∀ p, H p = none → Q (.ref p) (upd H p (.lst ((sortN ks).map fun x => V.ref x.2.1)))) := by
  intro pins s σ H xs us Q I r q
  obtain ⟨d, ks, ex, hd, hal, hso, hdp, q⟩ := q
  subst ex
  obtain ⟨u, eu, rx⟩ := vals1 r
  subst eu
  cases rx
  obtain ⟨dd, lo, hz⟩ := dn_of I hd
  obtain ⟨es, ep, raw, hsz, hes⟩ := dd.raw
  have hlen : (toH ks).length = ks.length := List.length_map _
  refine Calls.call_function_entry PyProof.Rows.kind_sorted PyProof.Rows.plain_sorted PyProof.Rows.entry_sorted (PyProof.Rows.args_sorted1 _) ?_
  unfold Builtin.«sorted»
  refine wpAny_bind (m := checkCount "sorted" 1 1 _) (wpAny_pure ?_)
  refine wpAny_bind (PySem.W.kdu_collect (A := X.A.in1) (kdl_raw (es := es) (ep := ep) lo) (I.ok.hd hcalm) raw (by omega) fun h' tk acc hk hacc => ?_)
  have hacl : acc.toList.length = ks.length := by rw [Array.length_toList, hacc.1]; omega
  have I1 : Inv X pins σ H { s with heap := h', toks := tk } := I.kept hk
  have e1 : EachIs (fun (v : Value) (x : NestedKey × Addr × Addr) => v = .ref x.2.1) acc.toList ks := each_at hacl fun j v e => by
    obtain ⟨hi, ev⟩ := hacc.2 j v (by rw [← Array.getElem?_toList]; exact e)
    obtain ⟨y, h1, h2, _⟩ := hes j hi
    unfold toH at h1
    rw [List.getElem?_map] at h1
    obtain ⟨x, hx, rfl⟩ := Option.map_eq_some_iff.mp h1
    exact ⟨x, hx, ev.trans h2⟩
  refine wpAny_bind (wpAny_newList ?_ (by rw [hacl]; omega))
  have hoL : (h'.push (PyProof.Rows.seqObj "list" acc.toList.toArray 0)).get? h'.objs.size = some (PyProof.Rows.seqObj "list" acc.toList.toArray 0) := Heap.get?_push_size _ rfl
  have er : EachIs (fun (v : Value) (x : NestedKey × Addr × Addr) => ∃ as, Reads (h'.push (PyProof.Rows.seqObj "list" acc.toList.toArray 0)) v (rowsE x) as ∧ h'.objs.size ∉ as) acc.toList ks := (each_mem e1).mono fun v x hh => by
    obtain ⟨ev, hx⟩ := hh
    obtain ⟨k1, _⟩ := hd.2 x hx
    obtain ⟨as, ra⟩ := Dp.reads I1 _ _ (.ref x.2.1) k1 rfl
    have : as = [] := reads_key x.1 _ _ ra
    subst this
    rw [ev]
    exact ⟨[], PyProof.Rows.Reads.keeps (fun _ _ e => Heap.get?_push_of_some _ e) ra, List.not_mem_nil⟩
  show wpAny _ _ _ _ _ { s with heap := h'.push (PyProof.Rows.seqObj "list" acc.toList.toArray 0), toks := tk }
  refine wpAny_bind (wpAny_holding ?_)
  refine list_sort_data (s := { s with heap := h'.push (PyProof.Rows.seqObj "list" acc.toList.toArray 0), toks := tk }) (enc := rowsE) hoL e1 er hal hso (by omega) (fun x hx => by have := hdp x hx; rw [PyProof.Rows.units_in1]; omega) fun out ho he => ?_
  obtain ⟨e', he'⟩ := PyProof.Rows.sortedHeap_at (vs := acc.toList) (out := out.toArray) hoL
  have hl2 : ((sortN ks).map fun x => V.ref x.2.1).length ≤ sizeLine := by
    unfold sortN
    rw [List.length_map, (List.mergeSort_perm _ _).length_eq]
    exact hz
  refine wpAny_pure ⟨_, rfl, .ref h'.objs.size, upd H h'.objs.size (.lst ((sortN ks).map fun x => V.ref x.2.1)), I1.laid (t' := tk) (fun b u e => ?_) (Nat.le_refl _)
    (show ObjOk X.prog X.w _ _ _ (.lst _) from ⟨hl2, out, e', each_vals he, he'⟩), rfl, q _ (I1.hok.fresh (Nat.le_refl _))⟩
  have hb : b < h'.objs.size := Heap.lt_size e
  rw [PyProof.Rows.sortedHeap_old (Nat.ne_of_lt hb) (by show b < (h'.objs.push _).size; rw [Array.size_push]; exact Nat.lt_succ_of_lt hb)]
  exact Heap.get?_push_of_some _ e
end
end FD
/-! A walk over rooms: waiting ones popped, each new one's nexts put under it in a dict and behind the waiting. -/
namespace FL
open PySem L2 FD
mutual
def nkOf : PyData → Option NestedKey
  | .none => some .none
  | .int i => some (.num i)
  | .str x => some (.text x)
  | .tuple ds => match nkAll ds with
    | some ks => some (.tup ks)
    | none => none
  | _ => none
def nkAll : List PyData → Option (List NestedKey)
  | [] => some []
  | d :: ds => match nkOf d, nkAll ds with
    | some k, some ks => some (k :: ks)
    | _, _ => none
end
mutual
theorem nk_data : ∀ (d : PyData) (k : NestedKey), nkOf d = some k → k.data = d
  | .none, k, h => by cases h; rfl
  | .int i, k, h => by cases h; rfl
  | .str x, k, h => by cases h; rfl
  | .tuple ds, k, h => by
    unfold nkOf at h
    split at h
    next ks e =>
      cases h
      show PyData.tuple (NestedKey.datas ks) = _
      rw [nks_data ds ks e]
    next => cases h
  | .bool _, k, h => by cases h
  | .list _, k, h => by cases h
  | .dict _, k, h => by cases h
theorem nks_data : ∀ (ds : List PyData) (ks : List NestedKey), nkAll ds = some ks → NestedKey.datas ks = ds
  | [], ks, h => by cases h; rfl
  | d :: ds, ks, h => by
    unfold nkAll at h
    split at h
    next k r e1 e2 =>
      cases h
      show k.data :: NestedKey.datas r = _
      rw [nk_data d k e1, nks_data ds r e2]
    next => cases h
end
def isTupK : NestedKey → Bool
  | .tup _ => true
  | _ => false
/-- the walk: fuel, waiting, found; what it has found in the end -/
def walkG (nx : NestedKey → Option (List NestedKey)) : Nat → List NestedKey → List NestedKey → Option (List NestedKey)
  | 0, _, _ => none
  | n + 1, ws, fs => match ws.getLast? with
    | none => some fs
    | some k => if isTupK k = true ∧ k.depth ≤ 8 then
        (if k ∈ fs then walkG nx n ws.dropLast fs else match nx k with
          | none => none
          | some ks => if ws.length + ks.length ≤ 16000000 ∧ fs.length < 16000000 then walkG nx n (ws.dropLast ++ ks) (fs ++ [k]) else none)
      else none
def nxF (F : List Vl → Option (List PyData)) (h : Vl) (k : NestedKey) : Option (List NestedKey) := match F [h, .dat k.data] with
  | some ds => nkAll ds
  | none => none
theorem datas_append : ∀ a b : List NestedKey, NestedKey.datas (a ++ b) = NestedKey.datas a ++ NestedKey.datas b
  | [], _ => rfl
  | k :: a, b => by
    show k.data :: NestedKey.datas (a ++ b) = _
    rw [datas_append a b]
    rfl
theorem datas_len : ∀ a : List NestedKey, (NestedKey.datas a).length = a.length
  | [] => rfl
  | k :: a => by
    show (k.data :: NestedKey.datas a).length = _
    rw [List.length_cons, datas_len a]
    rfl
theorem drAll_last {K : PySem.W.Frag} {H : Hp} : ∀ {ds : List PyData} {d : PyData} {us : List V}, DRAll K H us (ds ++ [d]) → ∃ us' y, us = us' ++ [y] ∧ DRAll K H us' ds ∧ DR K H y d
  | [], d, us, h => by
    cases h with
    | cons h1 h2 =>
      cases h2
      exact ⟨[], _, rfl, .nil, h1⟩
  | e :: ds, d, us, h => by
    cases h with
    | cons h1 h2 =>
      obtain ⟨us', y, rfl, h3, h4⟩ := drAll_last h2
      exact ⟨_ :: us', y, rfl, .cons h1 h3, h4⟩
theorem get_mem {xs : NK} {k : NestedKey} : (getN xs k).isSome = decide (k ∈ xs.map (·.1)) := by
  unfold getN
  rw [Option.isSome_map]
  induction xs with
  | nil => rfl
  | cons x xs ih =>
    rw [List.find?_cons, List.map_cons]
    by_cases e : x.1 = k
    · rw [decide_eq_true e]
      simp [e]
    · rw [decide_eq_false e]
      simp only []
      rw [ih]
      have : ¬ k = x.1 := fun z => e z.symm
      simp [this]
theorem get_new {xs : NK} {k : NestedKey} {a v : Addr} (h : getN xs k = none) : getN (xs ++ [(k, a, v)]) k = some v := by
  unfold getN at h ⊢
  rw [List.find?_append]
  have : List.find? (fun x : NestedKey × Addr × Addr => decide (x.1 = k)) xs = none := by
    cases q : List.find? (fun x : NestedKey × Addr × Addr => decide (x.1 = k)) xs with
    | none => rfl
    | some y => rw [q] at h; cases h
  rw [this]
  simp
/-- what the body asks -/
def tWalk (Pg : Program) (w : World) (K : PySem.W.Frag) (sp : Sp) : TS := tSeq (tAsg tDNewK (gName 3)) (tSeq (tAsg (tLst (tCons (tVar 1) tNil)) (gName 4)) (tSeq (tWhile (fun σ H Q => tVar 4 σ H fun x H' => ∃ k, TruV K x H' k ∧ Q k H')
  (tSeq (tAsg (tBM0 K "list" rPop (tVar 4)) (gName 5)) (tSeq (tIfS (tTest (tOp (rNinN Pg w K) (tVar 5) (tVar 3))) (tSeq (tAsg (tIf (tTest (tOp (rInN Pg w K) (tVar 5) (tVar 2))) (tLst tNil) (tCall sp [] E0 (tCons (tVar 0) (tCons (tVar 5) tNil)))) (gSub (tVar 3) (tVar 5) (rSetN Pg w K)))
    (tSeq (tDrop (tBM K "list" rExtend (tVar 4) (tCons (tOp (rIxN Pg w K) (tVar 3) (tVar 5)) tNil))) tNext)) tNext) tNext))) (tSeq (tRet (tVar 3)) tNext)))
/-- a walk told: the dict, its keys as found -/
def spN (Pg : Program) (w : World) (P : Pm) (F : List Vl → Option (List PyData)) (n : Nat) : Sp := fun vs H Q _ => ∃ S hv rv d hse k ks, vs = [hv, rv, .ref d] ∧ Live S H ∧ VR P (hdn S H) hv hse ∧ DR P.K (hdn S H) rv k.data ∧ H d = some (.dK []) ∧ walkG (nxF F hse) n [k] [] = some ks ∧
  ∀ a xs H', Same H H' → H a = none → H' a = some (dn Pg w a xs) ∨ (xs = [] ∧ H' a = some (.dK [])) → xs.map (·.1) = ks → (∀ x ∈ xs, DR P.K (hdn S H') (.ref x.2.1) x.1.data ∧ x.1.depth ≤ 8) → Q (.ref a) H'
section
variable {Pg : Program} {w : World} {P : Pm} {F : List Vl → Option (List PyData)} {S : Addr → Prop} {H0 : Hp} {hv rv : V} {d a l : Addr} {hse : Vl}
structure WI (Pg : Program) (w : World) (P : Pm) (S : Addr → Prop) (H0 : Hp) (hv rv : V) (d a l : Addr) (ws fs : List NestedKey) (σ : St) (H : Hp) : Prop where
  st : ∃ o5, σ = [some hv, some rv, some (.ref d), some (.ref a), some (.ref l), o5]
  sm : Same H0 H
  ls : ∃ us, H l = some (.lst us) ∧ DRAll P.K (hdn (fun b => S b ∨ b = a ∨ b = l) H) us (NestedKey.datas ws)
  dc : ∃ xs, (H a = some (dn Pg w a xs) ∨ (xs = [] ∧ H a = some (.dK []))) ∧ xs.map (·.1) = fs ∧ ∀ x ∈ xs, DR P.K (hdn (fun b => S b ∨ b = a ∨ b = l) H) (.ref x.2.1) x.1.data ∧ x.1.depth ≤ 8
theorem keys_dp {K : PySem.W.Frag} {S : Addr → Prop} {H H' : Hp} {xs : NK} (e : Same (hdn S H) H') (h : ∀ x ∈ xs, DR K (hdn S H) (.ref x.2.1) x.1.data ∧ x.1.depth ≤ 8) : KeysAt K H' xs := fun x hx => ⟨dr_dp _ _ (dr_mono e _ _ (h x hx).1), (h x hx).2⟩
theorem walk_loop (Q : VK) (ks : List NestedKey) (hS : Live S H0) (hh : VR P (hdn S H0) hv hse) (hd : H0 d = some (.dK [])) (ha : H0 a = none) (hl : H0 l = none) (hal : a ≠ l) (D : Ends)
    (hD : ∀ xs σ H, Same H0 H → (H a = some (dn Pg w a xs) ∨ (xs = [] ∧ H a = some (.dK []))) → xs.map (·.1) = ks → (∀ x ∈ xs, DR P.K (hdn (fun b => S b ∨ b = a ∨ b = l) H) (.ref x.2.1) x.1.data ∧ x.1.depth ≤ 8) → σ[3]? = some (some (.ref a)) → D.nx σ H) :
    ∀ m σ H, (∃ ws fs, WI Pg w P S H0 hv rv d a l ws fs σ H ∧ walkG (nxF F hse) m ws fs = some ks) →
    tVar 4 σ H fun x H' => ∃ k, TruV P.K x H' k ∧ (fun (b : Bool) H1 => if b = true then ∃ N : St → Hp → Prop, (∀ σ' H', N σ' H' → ∃ m', m' < m ∧ ∃ ws fs, WI Pg w P S H0 hv rv d a l ws fs σ' H' ∧ walkG (nxF F hse) m' ws fs = some ks) ∧
      (tSeq (tAsg (tBM0 P.K "list" rPop (tVar 4)) (gName 5)) (tSeq (tIfS (tTest (tOp (rNinN Pg w P.K) (tVar 5) (tVar 3))) (tSeq (tAsg (tIf (tTest (tOp (rInN Pg w P.K) (tVar 5) (tVar 2))) (tLst tNil) (tCall (spL P F) [] E0 (tCons (tVar 0) (tCons (tVar 5) tNil)))) (gSub (tVar 3) (tVar 5) (rSetN Pg w P.K)))
    (tSeq (tDrop (tBM P.K "list" rExtend (tVar 4) (tCons (tOp (rIxN Pg w P.K) (tVar 3) (tVar 5)) tNil))) tNext)) tNext) tNext)) { D with nx := N, ct := N, bk := D.nx } σ H1 else D.nx σ H1) k H' := by
  rintro m σ H ⟨ws, fs, ⟨⟨o5, rfl⟩, sm, ⟨us, hus, hua⟩, ⟨xs, hxa, hxf, hxk⟩⟩, hw⟩
  have s1a : ∀ {b o}, H0 b = some o → b ≠ a ∧ b ≠ l := fun {b o} e => ⟨fun z => (by rw [z, ha] at e; cases e), fun z => (by rw [z, hl] at e; cases e)⟩
  have ul := DRAll.length hua
  rw [datas_len] at ul
  refine ⟨.ref l, rfl, !us.isEmpty, .inl ⟨us, SqL.of hus, rfl⟩, ?_⟩
  cases m with
  | zero => cases hw
  | succ m =>
    unfold walkG at hw
    cases hg : ws.getLast? with
    | none =>
      rw [hg] at hw
      cases hw
      have : ws = [] := by simpa using hg
      subst this
      have : us = [] := by simpa using ul
      subst this
      exact hD xs _ H sm hxa hxf hxk rfl
    | some k =>
      rw [hg] at hw
      simp only [] at hw
      have hne : ws ≠ [] := fun z => by rw [z] at hg; cases hg
      have ews : ws = ws.dropLast ++ [k] := by
        have := List.dropLast_concat_getLast hne
        rw [List.getLast?_eq_some_getLast hne] at hg
        cases hg
        exact this.symm
      have hue : us.isEmpty = false := by
        cases us with
        | nil => rw [List.length_nil] at ul; exact absurd (List.eq_nil_of_length_eq_zero ul.symm) hne
        | cons _ _ => rfl
      rw [hue]
      show (if (!false) = true then _ else _)
      rw [if_pos (show (!false) = true from rfl)]
      split at hw
      next hk =>
        obtain ⟨kt, k8⟩ := hk
        rw [ews, datas_append] at hua
        obtain ⟨us', y, rfl, hua', hy⟩ := drAll_last hua
        obtain ⟨ya, rfl⟩ : ∃ ya, y = .ref ya := by
          cases k with
          | tup kk =>
            have hy : DR P.K _ y (.tuple (NestedKey.datas kk)) := hy
            cases hy
            exact ⟨_, rfl⟩
          | none => cases kt
          | num _ => cases kt
          | text _ => cases kt
        let H1 := upd H l (.lst us')
        have hlne : ∀ b, b ≠ l → H1 b = H b := fun b hb => upd_ne hb
        have m1 : Same (hdn (fun b => S b ∨ b = a ∨ b = l) H) (hdn (fun b => S b ∨ b = a ∨ b = l) H1) := mk_same fun b o n e => ⟨n, by rw [hlne b (fun z => n (.inr (.inr z)))]; exact e⟩
        have sm1 : Same H0 H1 := fun b o e => by rw [hlne b (s1a e).2]; exact sm b o e
        have hxa1 : H1 a = some (dn Pg w a xs) ∨ (xs = [] ∧ H1 a = some (.dK [])) := by rw [hlne a hal]; exact hxa
        have hy1 := dr_mono m1 _ _ hy
        have hu1 := drAll_mono m1 _ _ hua'
        have hx1 : ∀ x ∈ xs, DR P.K (hdn (fun b => S b ∨ b = a ∨ b = l) H1) (.ref x.2.1) x.1.data ∧ x.1.depth ≤ 8 := fun x hx => ⟨dr_mono m1 _ _ (hxk x hx).1, (hxk x hx).2⟩
        have kv1 : KeyV P.K H1 (.ref ya) k := ⟨ya, rfl, dr_dp _ _ (dr_mono (mk_le _ _) _ _ hy1), k8⟩
        refine ⟨fun σ' H' => ∃ ws fs, WI Pg w P S H0 hv rv d a l ws fs σ' H' ∧ walkG (nxF F hse) m ws fs = some ks, fun σ' H' h => ⟨m, Nat.lt_succ_self m, h⟩, ?_⟩
        refine ⟨.ref l, rfl, .inl ⟨rfl, _, SqL.of hus⟩, l, us' ++ [.ref ya], .ref ya, rfl, rfl, hus, by simp, ?_⟩
        rw [List.dropLast_concat]
        show tSeq _ _ _ [some hv, some rv, some (.ref d), some (.ref a), some (.ref l), some (.ref ya)] H1
        refine ⟨.ref ya, rfl, .ref a, rfl, a, xs, k, rfl, ⟨hxa1, keys_dp (mk_le _ _) hx1⟩, kv1, _, rfl, ?_⟩
        rw [get_mem, hxf]
        by_cases hm : k ∈ fs
        · rw [if_pos hm] at hw
          rw [decide_eq_true hm]
          exact ⟨ws.dropLast, fs, ⟨⟨_, rfl⟩, sm1, ⟨us', upd_same, hu1⟩, ⟨xs, hxa1, hxf, hx1⟩⟩, hw⟩
        · rw [if_neg hm] at hw
          rw [decide_eq_false hm]
          have gn : getN xs k = none := by
            have := get_mem (xs := xs) (k := k)
            rw [hxf, decide_eq_false hm] at this
            simpa using this
          show (if (!false) = true then _ else _)
          rw [if_pos (show (!false) = true from rfl)]
          cases hn : nxF F hse k with
          | none => rw [hn] at hw; cases hw
          | some kk =>
            rw [hn] at hw
            simp only [] at hw
            split at hw
            next hb =>
              obtain ⟨hb1, hb2⟩ := hb
              unfold nxF at hn
              split at hn
              next ds hF =>
                have hds := nks_data ds kk hn
                -- ends: no key in it
                refine ⟨.ref ya, rfl, .ref d, rfl, d, [], k, rfl, ⟨.inr ⟨rfl, sm1 _ _ hd⟩, fun _ h => absurd h List.not_mem_nil⟩, kv1, false, rfl, ?_⟩
                show (if false = true then _ else _)
                rw [if_neg (by simp)]
                -- the call
                refine ⟨hv, rfl, .ref ya, rfl, ?_⟩
                have see : Same (hdn S H0) (hdn (fun b => S b ∨ b = a ∨ b = l) H1) := mk_same fun b o n e => ⟨fun z => z.elim n fun z => z.elim (s1a e).1 (s1a e).2, sm1 b o e⟩
                have hS1 : Live (fun b => S b ∨ b = a ∨ b = l) H1 := fun b z => by
                  rcases z with z | rfl | rfl
                  · have := hS b z
                    cases q : H0 b with
                    | none => exact absurd q this
                    | some o => rw [sm1 b o q]; simp
                  · rcases hxa1 with e | ⟨_, e⟩ <;> rw [e] <;> simp
                  · rw [show H1 b = _ from upd_same]; simp
                refine ⟨_, [hse, .dat k.data], ds, hS1, .cons (VR.mono see hh) (.cons hy1 .nil), hF, fun p us2 H2 s2 hp hp2 h2 => ?_⟩
                have h1a : H1 a ≠ none := hS1 a (.inr (.inl rfl))
                have h1l : H1 l ≠ none := hS1 l (.inr (.inr rfl))
                have pa : p ≠ a := fun z => h1a (z ▸ hp)
                have pl : p ≠ l := fun z => h1l (z ▸ hp)
                have hxa2 : H2 a = some (dn Pg w a xs) ∨ (xs = [] ∧ H2 a = some (.dK [])) := by
                  rcases hxa1 with e | ⟨z, e⟩
                  · exact .inl (s2 _ _ e)
                  · exact .inr ⟨z, s2 _ _ e⟩
                have hl2 : H2 l = some (.lst us') := s2 _ _ upd_same
                have m12 : Same (hdn (fun b => S b ∨ b = a ∨ b = l) H1) H2 := fun b o e => s2 b o (mk_le _ _ b o e)
                -- put under its key
                let H3 := upd H2 a (dn Pg w a (xs ++ [(k, ya, p)]))
                have h3 : ∀ b, b ≠ a → H3 b = H2 b := fun b hb => upd_ne hb
                have xl : xs.length < sizeLine := by
                  have : xs.length = fs.length := by rw [← hxf, List.length_map]
                  have e : (16000000 : Nat) ≤ sizeLine := by decide
                  omega
                refine ⟨.ref a, rfl, .ref ya, rfl, a, xs, k, ya, p, rfl, rfl, rfl, ⟨hxa2, keys_dp m12 hx1⟩, dr_dp _ _ (dr_mono m12 _ _ hy1), k8, gn, xl, ?_⟩
                show tSeq _ _ _ _ H3
                -- behind the waiting
                have hl3 : H3 l = some (.lst us') := by rw [h3 l (Ne.symm hal)]; exact hl2
                have m13 : Same (hdn (fun b => S b ∨ b = a ∨ b = l) H1) H3 := fun b o e => by
                  have q := mk_some.mp e
                  rw [h3 b fun z => q.1 (.inr (.inl z))]
                  exact s2 b o q.2
                have hx3 : KeysAt P.K H3 (xs ++ [(k, ya, p)]) := fun x hx => by
                  rcases List.mem_append.mp hx with hx | hx
                  · exact keys_dp m13 hx1 x hx
                  · have := List.mem_singleton.mp hx
                    subst this
                    exact ⟨dr_dp _ _ (dr_mono m13 _ _ hy1), k8⟩
                have hp3 : H3 p = some (.lst us2) := by rw [h3 p pa]; exact hp2
                refine ⟨.ref l, rfl, .inl ⟨rfl, _, SqL.of hl3⟩, .ref a, rfl, .ref ya, rfl, a, xs ++ [(k, ya, p)], k, p, rfl, ⟨.inl upd_same, hx3⟩, ⟨ya, rfl, dr_dp _ _ (dr_mono m13 _ _ hy1), k8⟩, get_new gn, ?_⟩
                have e2 := DRAll.length h2
                have e1 := DRAll.length hu1
                rw [datas_len] at e1
                have ek : ds.length = kk.length := by rw [← hds, datas_len]
                have wl : ws.dropLast.length + 1 = ws.length := by
                  have := congrArg List.length ews
                  rw [List.length_append] at this
                  simp at this
                  have := List.length_pos_iff.mpr hne
                  simp
                  omega
                refine ⟨l, p, us', us2, rfl, rfl, hl3, hp3, ?_, ?_⟩
                · have e : (16000000 : Nat) ≤ sizeLine := by decide
                  omega
                let H4 := upd H3 l (.lst (us' ++ us2))
                have h4 : ∀ b, b ≠ a → b ≠ l → H4 b = H2 b := fun b hb hb2 => by show upd H3 l _ b = _; rw [upd_ne hb2, h3 b hb]
                have m14 : Same (hdn (fun b => S b ∨ b = a ∨ b = l) H1) (hdn (fun b => S b ∨ b = a ∨ b = l) H4) := mk_same fun b o n e => ⟨n, by rw [h4 b (fun z => n (.inr (.inl z))) (fun z => n (.inr (.inr z)))]; exact s2 b o e⟩
                have m24 : Same (hdn (fun b => (S b ∨ b = a ∨ b = l) ∨ b = p) H2) (hdn (fun b => S b ∨ b = a ∨ b = l) H4) := mk_same fun b o n e => ⟨fun z => n (.inl z), by rw [h4 b (fun z => n (.inl (.inr (.inl z)))) (fun z => n (.inl (.inr (.inr z))))]; exact e⟩
                refine ⟨ws.dropLast ++ kk, fs ++ [k], ⟨⟨_, rfl⟩, fun b o e => ?_, ⟨us' ++ us2, upd_same, ?_⟩, ⟨xs ++ [(k, ya, p)], .inl ?_, by rw [List.map_append, hxf]; rfl, fun x hx => ?_⟩⟩, hw⟩
                · exact (h4 b (s1a e).1 (s1a e).2).trans (s2 b o (sm1 b o e))
                · rw [datas_append, hds]
                  exact DRAll.append (drAll_mono m14 _ _ hu1) (drAll_mono m24 _ _ h2)
                · show upd H3 l _ a = _
                  rw [upd_ne hal]
                  exact upd_same
                · rcases List.mem_append.mp hx with hx | hx
                  · exact ⟨dr_mono m14 _ _ (hx1 x hx).1, (hx1 x hx).2⟩
                  · have := List.mem_singleton.mp hx
                    subst this
                    exact ⟨dr_mono m14 _ _ hy1, k8⟩
              next => cases hn
            next => cases hw
      next => cases hw
theorem walk_ok {n : Nat} {vs : List V} {Q : VK} {E : XK} {N : List Str} (hN : N.length = 6) {nxt bk ct : St → Hp → Prop} (h : spN Pg w P F n vs H0 Q E) : tWalk Pg w P.K (spL P F) { nx := nxt, rt := Q, bk := bk, ct := ct } (L2.start N vs) H0 := by
  obtain ⟨S, hv, rv, d, hse, k, ks, rfl, hS, hh, hr, hd, hw, q⟩ := h
  have est : L2.start N [hv, rv, .ref d] = [some hv, some rv, some (.ref d), none, none, none] := by
    unfold L2.start
    rw [hN]
    rfl
  rw [est]
  intro a ha
  show tSeq _ _ _ [some hv, some rv, some (.ref d), some (.ref a), none, none] (upd H0 a (.dK []))
  refine ⟨rv, rfl, ?_⟩
  refine ⟨by show 1 ≤ sizeLine; decide, fun l hl => ?_⟩
  have hal : a ≠ l := fun z => by rw [← z, upd_same] at hl; cases hl
  have hl0 : H0 l = none := by rwa [upd_ne (Ne.symm hal)] at hl
  show tSeq _ _ _ [some hv, some rv, some (.ref d), some (.ref a), some (.ref l), none] (upd (upd H0 a (.dK [])) l (.lst [rv]))
  have s1a : ∀ {b o}, H0 b = some o → b ≠ a ∧ b ≠ l := fun {b o} e => ⟨fun z => (by rw [z, ha] at e; cases e), fun z => (by rw [z, hl0] at e; cases e)⟩
  have sm : Same H0 (upd (upd H0 a (.dK [])) l (.lst [rv])) := fun b o e => by rw [upd_ne (s1a e).2, upd_ne (s1a e).1]; exact e
  have see : Same (hdn S H0) (hdn (fun b => S b ∨ b = a ∨ b = l) (upd (upd H0 a (.dK [])) l (.lst [rv]))) := mk_same fun b o n e => ⟨fun z => z.elim n fun z => z.elim (s1a e).1 (s1a e).2, sm b o e⟩
  refine ⟨fun m σ H => ∃ ws fs, WI Pg w P S H0 hv rv d a l ws fs σ H ∧ walkG (nxF F hse) m ws fs = some ks, ⟨n, [k], [], ⟨⟨none, rfl⟩, sm, ⟨[rv], upd_same, ?_⟩, ⟨[], .inr ⟨rfl, ?_⟩, rfl, fun _ h => absurd h List.not_mem_nil⟩⟩, hw⟩, ?_⟩
  · exact .cons (dr_mono see _ _ hr) .nil
  · rw [upd_ne hal]
    exact upd_same
  · refine walk_loop Q ks hS hh hd ha hl0 hal _ fun xs σ H sm hxa hxf hxk h3 => ?_
    refine ⟨.ref a, h3, q a xs H sm ha hxa hxf fun x hx => ⟨dr_mono (mk_sub fun b z => .inl z) _ _ (hxk x hx).1, (hxk x hx).2⟩⟩
end
section
variable {Pg : Program} {w : World} {K : PySem.W.Frag} {mg : Str → Option Value} {base : Heap} {P : Pm} {F : List Vl → Option (List PyData)} {x : Str} {st : Stmt} {N ps : List Str} {k n : Nat}
/-- the def that walks -/
theorem dn_walk (h : Hr K mg x st) (S : FnScope N ps (defScope st)) (hN : N.length = 6) (hps : ps.length = 3) (B : Bnd ps x st) (hK : P.K = K)
    (hb : ∀ (f : Addr) (cdv : Value) (A : Around) (outer : List Env) (s : Shared) (H : Hp) (E : XK), Room k (A.deeper (PyProof.Rows.envOfC x (defScope st) s.heap.objs.size f cdv)) → PSs (cxOf CX0 Pg w K mg base N x (defScope st) f cdv A outer s H E).nox (defBody st) (tWalk Pg w K (spL P F))) :
    Dn Pg w K mg base CX0 (k + 1) x ps (spN Pg w P F n) := by
  obtain ⟨f, fd, G, h1⟩ := h
  subst hK
  refine ⟨f, fd, G.ok S (fun vs H Q E h => ?_) (fun cdv A outer s H vs Q E hr h => ⟨_, hb f cdv A outer s H E hr, walk_ok hN h⟩), h1, G.kp, G.binds B⟩
  obtain ⟨S0, hv, rv, d, hse, kk, ks, rfl, _⟩ := h
  rw [hps]
  rfl
end
/-- sorted(walk(house, room, {})) -/
def srtK (ks : List NestedKey) : List PyData := (ks.mergeSort (PySem.W.dataLe false NestedKey.data)).map NestedKey.data
def tup1 : NestedKey → Bool
  | .tup (_ :: _) => true
  | _ => false
def okSrt (ks : List NestedKey) : Bool := ks.all fun a => (ks.all fun b => PySem.W.alike a.data b.data) && (decide (a.data.depth ≤ 8) && tup1 a)
def mSrtW (F : List Vl → Option (List PyData)) (n : Nat) (f1 f2 : Mx Vl) : Mx (List PyData) := bnd f1 fun h => bnd f2 fun r => opt (match r with
  | .dat d => match nkOf d with
    | some k => match walkG (nxF F h) n [k] [] with
      | some ks => if okSrt ks = true then some (srtK ks) else none
      | none => none
    | none => none
  | _ => none)
theorem sort_keys (xs : NK) : (sortN xs).map rowsE = srtK (xs.map (·.1)) := by
  have h := List.map_mergeSort (r := PySem.W.dataLe false rowsE) (s := PySem.W.dataLe false NestedKey.data) (f := fun x : NestedKey × Addr × Addr => x.1) (l := xs) (fun a _ b _ => rfl)
  unfold srtK sortN
  rw [← h, List.map_map]
  rfl
theorem drAll_each {K : PySem.W.Frag} {H : Hp} : ∀ {xs : NK}, (∀ x ∈ xs, DR K H (.ref x.2.1) x.1.data) → DRAll K H (xs.map fun x => V.ref x.2.1) (xs.map rowsE)
  | [], _ => .nil
  | x :: xs, h => .cons (h x List.mem_cons_self) (drAll_each fun y hy => h y (List.mem_cons_of_mem _ hy))
section
variable {P : Pm} {X : Cx} {k n : Nat} {ps : List Str} {x : Str} {p p2 p3 p4 pos : Pos} {a b : Expr} {f1 f2 : Mx Vl}
theorem fl_sortW {F : List Vl → Option (List PyData)} (D : Dn X.prog X.w X.K X.mg X.base CX0 k x ps (spN X.prog X.w P F n)) (hr : Room k X.A) (h1 : FE X P a f1) (h2 : FE X P b f2) (hm : X.mg "sorted" = none) (hc : X.calm = true := by rfl) (hK : X.K = P.K := by rfl) (hg : Gl X "sorted" := by rfl) (hg2 : Gl X x := by rfl) (hdb : (x == ("__debug__" : Str)) = false := by decide)
    (e0 : starEach [.Call (.Name x p2) [a, b, .Dict [] [] p3] [] p4] X.env = (false, eval (.Call (.Name x p2) [a, b, .Dict [] [] p3] [] p4) X.env) :: starEach [] X.env := by rfl) (hpl0 : (backTo pos (starEach [] X.env)).any (·.1) = false := by rfl)
    (e1 : starEach [a, b, .Dict [] [] p3] X.env = (false, eval a X.env) :: starEach [b, .Dict [] [] p3] X.env := by rfl) (e2 : starEach [b, .Dict [] [] p3] X.env = (false, eval b X.env) :: starEach [.Dict [] [] p3] X.env := by rfl) (e3 : starEach [.Dict [] [] p3] X.env = (false, eval (.Dict [] [] p3) X.env) :: starEach [] X.env := by rfl)
    (hpl : (backTo p4 (starEach [b, .Dict [] [] p3] X.env)).any (·.1) = false := by rfl) :
    FL X P (.Call (.Name "sorted" p) [.Call (.Name x p2) [a, b, .Dict [] [] p3] [] p4] [] pos) (mSrtW F n f1 f2) := by
  obtain ⟨f, fd, G, g1, g2, g3⟩ := D
  have inner := pe_call (pos := p4) (p := p2) G hr hg2 g1 g2 g3 .nil pass0 (pa_cons h1 (pa_cons h2 (pa_cons (pe_dnewK (pos := p3)) pa_nil e3) e2) e1) hdb e1 hpl
  refine PE.imp (pe_callB (call_sortedN hc (hu64 hr)) hg hm (by decide +kernel) (pa_cons inner pa_nil e0) (by decide) (by decide) e0 hpl0) ?_
  rintro σ H Q ⟨M, r, ss, rw, ds, rw', I, e, q⟩
  obtain ⟨y1, rw1, q1, e⟩ := bnd_some e
  obtain ⟨y2, rw2, q2, e⟩ := bnd_some e
  obtain ⟨e, rfl⟩ := opt_some e
  cases y2 with
  | hse _ _ => cases e
  | dct _ => cases e
  | dat d =>
    cases hk : nkOf d with
    | none => simp only [hk] at e; cases e
    | some kk =>
      simp only [hk] at e
      cases hw : walkG (nxF F y1) n [kk] [] with
      | none => simp only [hw] at e; cases e
      | some ks =>
        simp only [hw] at e
        split at e
        next hok =>
          cases e
          refine ⟨M, r, ss, rw, y1, rw1, I, q1, fun v1 H1 k1 I1 hv1 => ⟨M, r, ss, rw1, Vl.dat d, _, I1, q2, fun v2 H2 k2 I2 hv2 dd hdd => ?_⟩⟩
          have s3 : Same H2 (upd H2 dd (.dK [])) := upd_same' hdd
          have I3 := I2.grow s3
          have m12 : Same (hdn (Msk M r σ ss) H1) (hdn (Msk M r σ ss) (upd H2 dd (.dK []))) := mk_same fun b o nn e => ⟨nn, s3 b o (k2 b o e fun z => nn (.inr (.inl z)))⟩
          have kd := nk_data d kk hk
          refine ⟨Msk M r σ ss, v1, v2, dd, y1, kk, ks, rfl, I3.alloc, VR.mono m12 hv1, ?_, upd_same, hw, fun a xs H4 s4 ha4 hxa hxf hxk => ?_⟩
          · rw [kd]
            exact dr_mono (mk_grow s3) _ _ hv2
          · have hok' := hok
            unfold okSrt at hok'
            simp only [List.all_eq_true, Bool.and_eq_true, decide_eq_true_eq] at hok'
            have mem : ∀ x ∈ xs, x.1 ∈ ks := fun x hx => by rw [← hxf]; exact List.mem_map.mpr ⟨x, hx, rfl⟩
            refine ⟨a, xs, rfl, ⟨hxa, by rw [hK]; exact FL.keys_dp (mk_le _ _) hxk⟩, ?_, .inl ?_, fun x hx => (hok' x.1 (mem x hx)).2.1, fun p hp => ?_⟩
            · intro d1 hd1 d2 hd2
              obtain ⟨x, hx, rfl⟩ := List.mem_map.mp hd1
              obtain ⟨y, hy, rfl⟩ := List.mem_map.mp hd2
              exact (hok' x.1 (mem x hx)).1 y.1 (mem y hy)
            · intro d1 hd1
              obtain ⟨x, hx, rfl⟩ := List.mem_map.mp hd1
              have ht := (hok' x.1 (mem x hx)).2.2
              unfold rowsE
              cases hx1 : x.1 with
              | tup l =>
                rw [hx1] at ht
                cases l with
                | nil => cases ht
                | cons a l => exact ⟨_, _, rfl⟩
              | none => rw [hx1] at ht; cases ht
              | num _ => rw [hx1] at ht; cases ht
              | text _ => rw [hx1] at ht; cases ht
            · have s24 : Same H2 H4 := fun b o e => s4 b o (s3 b o e)
              have s25 : Same H2 (upd H4 p (.lst ((sortN xs).map fun x => V.ref x.2.1))) := fun b o e => upd_same' hp b o (s24 b o e)
              have hp2 : H2 p = none := by
                cases z : H2 p with
                | none => rfl
                | some o => rw [s24 p o z] at hp; cases hp
              have k12 := k1.trans k2
              refine q p _ _ (k12.trans (KeepR.of s25)) (I2.hideS s25 hp2 (by rw [upd_same]; simp)) (back_none k12 I2 hp2) upd_same ?_
              have e5 : srtK ks = (sortN xs).map rowsE := by rw [sort_keys, hxf]
              rw [e5]
              refine drAll_each fun x hx => ?_
              have hx' : x ∈ xs := (List.mergeSort_perm _ _).mem_iff.mp hx
              refine dr_mono (mk_same fun b o nn e => ⟨fun z => ?_, upd_same' hp b o e⟩) _ _ (hxk x hx').1
              rcases z with (z | z) | z | z
              · exact nn (.inl z)
              · rw [z, hp] at e; cases e
              · exact nn (.inr (.inl z))
              · exact nn (.inr (.inr z))
        next => cases e
end
end FL
/-! list(reversed(a list)). -/
namespace RT
open PySem PySem.Spec PyProof.Rows
section
variable {prog : Program} {w : World} {A : Around} {E : Value → Shared → Prop} {s : Shared}
theorem ext_rev {S it l : Addr} {items : Array Value} {c0 : Nat} {res : Value} {R : Result → Shared → Prop} (hh : A.handled = none) (hit1 : s.heap.IsRevIter it l ((items.size : Int) - 1)) (hl1 : s.heap.IsList l items) (hne : l ≠ it) (hSi : S ≠ it) (hSl : S ≠ l) (hn : items.size ≤ sizeLine)
    (hS₁ : s.heap.get? S = some { cls := .type "list", data := .seq #[] c0 })
    (hR : ∀ (h' : Heap) (tk : Nat) (acc : Array Value) (c' : Nat), (∀ b o, b ≠ S → b ≠ it → s.heap.get? b = some o → h'.get? b = some o) → h'.get? S = some { cls := .type "list", dict := none, data := .seq acc c', slots := #[] } → ItemsOf (fun i v => items[items.size - 1 - i]? = some v) acc items.size → R (.ok (.ret res)) { s with heap := h', toks := tk }) :
    wpAny (model prog w) A.in1 (Builtin.List.listExtendWith (.ref S) (.ref it) res)
      (fun fin s' => match fin with | .done f => R (.ok f) s' | .again c' => c'.quiet = true ∧ codeAny (model prog w) A c' R s') (fun e s' => R (.error e) s') s := by
  have W := (Walks.listRev (prog := prog) (w := w) (A := A.in1) hh it l hne items).toS
  have hSf : S ∉ [it, l] := by simp only [List.mem_cons, List.not_mem_nil, or_false, not_or]; exact ⟨hSi, hSl⟩
  have hT : s.TypeIs (.ref it) "list_reverseiterator" := Heap.IsRevIter.typeIs hit1
  have h1 : Builtin.List.listSameRef (.ref S) (.ref it) = false := by simp [Builtin.List.listSameRef, hSi]
  unfold Builtin.List.listExtendWith
  refine wpAny_bind (wpAny_typeOf hT ?_)
  rw [if_neg (by rw [h1]; decide)]
  refine wpAny_bind (wpAny_pyIter_revIter hit1 ?_)
  refine wpAny_bind (wpAny_holding ?_)
  unfold Builtin.List.listLengthHint
  refine wpAny_bind (wpAny_specialOf hT nolen_lri ?_)
  show wpAny _ A.in1 (specialOf (Value.ref it) (Str.ofString "__length_hint__") >>= _) _ _ _
  refine wpAny_bind (wpAny_specialOf hT hint_lri ?_)
  generalize hid : ("list_reverseiterator.__length_hint__" : String) = id0
  wp_delta
  rw [show splitId id0 = some ("list_reverseiterator", "__length_hint__") from by subst hid; decide +kernel]
  subst hid
  refine wpAny_bind (wpAny_isInstance (b := true) hT (by rw [isSubtype_type]; kernel_rfl) ?_)
  refine wpAny_pure ?_
  rw [if_neg (by decide)]
  have e0 : ((items.size : Nat) : Int) - 1 - ((0 : Nat) : Int) = (items.size : Int) - 1 := by omega
  refine wpAny_pure ⟨plainId_quiet F.plain_extend_loop _, codeAny_extend_loopS W hn _ hSf _ items.size 0 _ _ _ rfl (Nat.zero_le _) ⟨Nat.zero_le _, by rw [e0]; exact hit1, hl1⟩ hS₁ (ItemsOf.nil _) fun s' acc' c' hm hS' hacc => ?_⟩
  rw [Moved.eq_with hm]
  refine hR s'.heap s'.toks acc' c' (fun b o hb hb2 e => hm.heap b o (fun hmem => ?_) e) hS' hacc
  rcases List.mem_cons.mp hmem with e' | hmem
  · exact hb e'
  · exact hb2 (List.mem_singleton.mp hmem)
theorem call_list_rev {it l : Addr} {items : Array Value} {Q : Value → Shared → Prop} (hh : A.handled = none) (hit : s.heap.IsRevIter it l ((items.size : Int) - 1)) (hl : s.heap.IsList l items) (hne : l ≠ it) (hn : items.size ≤ sizeLine)
    (hQ : ∀ (h' : Heap) (tk : Nat) (acc : Array Value) (c' : Nat), (∀ b o, b ≠ it → s.heap.get? b = some o → h'.get? b = some o) → h'.get? s.heap.objs.size = some { cls := .type "list", dict := none, data := .seq acc c', slots := #[] } → ItemsOf (fun i v => items[items.size - 1 - i]? = some v) acc items.size →
      Q (.ref s.heap.objs.size) { s with heap := h', toks := tk }) :
    wpAny (model prog w) A (call (.type "list") [.ref it]) Q E s := by
  refine callType_codes (Q₁ := fun obj s₁ => obj = .ref s.heap.objs.size ∧ s₁ = { s with heap := s.heap.push { cls := .type "list", data := .seq #[] } }) PySem.F.called_list (PySem.F.typeCall_list_1 _) PySem.F.entry_list_init
    (code_list_new _ ⟨rfl, rfl⟩) fun obj s₁ h₁ => ?_
  obtain ⟨rfl, rfl⟩ := h₁
  obtain ⟨oi, hoi, _⟩ := id hit
  obtain ⟨ol, hol, _⟩ := id hl
  have hSi : s.heap.objs.size ≠ it := Nat.ne_of_gt (Heap.lt_size hoi)
  have hSl : s.heap.objs.size ≠ l := Nat.ne_of_gt (Heap.lt_size hol)
  have hS : (s.heap.push { cls := .type "list", data := .seq #[] }).get? s.heap.objs.size = some { cls := .type "list", data := .seq #[] } := Heap.get?_push_size _ rfl
  refine ⟨⟨_, hS, rfl⟩, PySem.F.args_list_init_2 _ _, ?_⟩
  show wpAny _ _ (do let old ← Builtin.List.listItems (.ref s.heap.objs.size); Builtin.List.listUpdate (.ref s.heap.objs.size) (fun _ => #[]); letGo old.toList.reverse; Builtin.List.listExtendWith (.ref s.heap.objs.size) (.ref it) .none) _ _ _
  refine wpAny_bind ?_
  unfold Builtin.List.listItems
  refine wpAny_bind (wpAny_seqItems hS rfl (wpAny_pure ?_))
  show wpAny _ _ (updateSeq s.heap.objs.size (fun _ => #[]) >>= fun _ => letGo (#[] : Array Value).toList.reverse >>= fun _ => Builtin.List.listExtendWith (.ref s.heap.objs.size) (.ref it) .none) _ _ _
  refine wpAny_bind (wpAny_updateSeq hS rfl ?_)
  have hS₂ := Heap.get?_update_self (Obj.mapSeq (fun _ => (#[] : Array Value))) hS rfl
  have oth : ∀ b o, b ≠ s.heap.objs.size → (s.heap.push { cls := .type "list", data := .seq #[] }).get? b = some o → ((s.heap.push { cls := .type "list", data := .seq #[] }).update s.heap.objs.size (Obj.mapSeq (fun _ => (#[] : Array Value)))).get? b = some o :=
    fun b o hb e => (Heap.get?_update_other _ _ (Ne.symm hb)).trans e
  have old : ∀ b o, s.heap.get? b = some o → ((s.heap.push { cls := .type "list", data := .seq #[] }).update s.heap.objs.size (Obj.mapSeq (fun _ => (#[] : Array Value)))).get? b = some o := fun b o e => oth b o (Nat.ne_of_lt (Heap.lt_size e)) (Heap.get?_push_of_some _ e)
  refine wpAny_bind (wpAny_letGo ?_)
  refine ext_rev (A := A.in1) hh (hit.at fun o e => old _ _ e) (hl.at fun o e => old _ _ e) hne hSi hSl hn hS₂ fun h' tk acc c' hk hS' hacc => ?_
  exact ⟨rfl, hQ h' tk acc c' (fun b o hb e => hk b o (Nat.ne_of_lt (Heap.lt_size e)) hb (old b o e)) hS' hacc⟩
end
end RT
namespace RT
open PySem PySem.Spec PyProof.Rows L2
section
variable {X : Cx}
def tListRev (K : PySem.W.Frag) (te : TE) : TE := fun σ H Q => te σ H fun v H1 => ∃ (a : Addr) (xs : List V), v = .ref a ∧ SqL K H1 a xs ∧ ∀ q, H1 q = none → Q (.ref q) (upd H1 q (.lst xs.reverse))
theorem pe_listRev {e : Expr} {te : TE} {p p2 pos pos2 : Pos} (hc : X.calm = true) (hg : Gl X "list") (hm : X.mg "list" = none) (hg2 : Gl X "reversed") (hm2 : X.mg "reversed" = none) (he : PE X e te)
    (hs : starEach [e] X.env = (false, eval e X.env) :: starEach [] X.env := by rfl)
    (hs2 : starEach [.Call (.Name "reversed" p2) [e] [] pos2] X.env = (false, eval (.Call (.Name "reversed" p2) [e] [] pos2) X.env) :: starEach [] X.env := by rfl) :
    PE X (.Call (.Name "list" p) [.Call (.Name "reversed" p2) [e] [] pos2] [] pos) (tListRev X.K te) := by
  refine ⟨fun pins s σ H Q I h => ?_⟩
  refine Call_ (ld_blt I hg hm (show bootBuiltins (Str.ofString "list") = some (.type "list") by decide +kernel) (PyProof.Rows.callWith_type1 (args_cons (Call_ (ld_blt I hg2 hm2 PyProof.Rows.boot_reversed (PyProof.Rows.callWith_type1 (args_cons (thn (he.run pins s σ H _ I h) fun u s1 ⟨v, H1, I1, r1, q1⟩ => args_nil ?_) hs) hs rfl))) hs2) hs2 rfl))
  obtain ⟨a, xs, ev, hq, q⟩ := q1
  subst ev
  obtain rfl : u = Value.ref a := r1
  obtain ⟨its, rv, p', hz⟩ := I1.list hq
  refine call_reversed_list p'.isList (args_nil ?_)
  have k0 : ∀ b o, s1.heap.get? b = some o → (s1.heap.push (revObj a ((its.toArray.size : Int) - 1))).get? b = some o := fun b o e => Heap.get?_push_of_some _ e
  have I2 : Inv X pins σ H1 { s1 with heap := s1.heap.push (revObj a ((its.toArray.size : Int) - 1)) } := I1.kept (t' := s1.toks) k0
  obtain ⟨f0, f1, f2, f3, f4, f5⟩ := I1.fpOk (H' := H1) (b := s1.heap.objs.size) (Nat.le_refl _) (I1.hok.fresh (Nat.le_refl _))
  have hl := p'.isList
  obtain ⟨ol, hol, _⟩ := id hl
  have hne : a ≠ s1.heap.objs.size := Nat.ne_of_lt (Heap.lt_size hol)
  have hn : its.toArray.size ≤ sizeLine := by rw [List.size_toArray, ← rv.length]; exact hz
  refine call_list_rev (s := { s1 with heap := s1.heap.push (revObj a ((its.toArray.size : Int) - 1)) }) (I1.ok.hd hc) ⟨_, Heap.get?_push_size _ rfl, rfl, rfl⟩ (hl.push _) hne hn fun h' tk acc c' hk hL hi => ?_
  have kk : ∀ b u, s1.heap.get? b = some u → h'.get? b = some u := fun b u e => hk b u (Nat.ne_of_lt (Heap.lt_size e)) (k0 b u e)
  have hsz : s1.heap.objs.size ≤ (s1.heap.push (revObj a ((its.toArray.size : Int) - 1))).objs.size := by
    show s1.heap.objs.size ≤ (s1.heap.objs.push _).size
    rw [Array.size_push]
    omega
  exact ⟨.ref _, upd H1 _ (.lst xs.reverse), I1.laid (t' := tk) kk hsz (show ObjOk X.prog X.w _ _ _ (.lst xs.reverse) from ⟨by rw [List.length_reverse]; exact hz, acc.toList, c', vals_rev rv hi, by rw [Array.toArray_toList]; exact hL⟩), rfl, q _ (I1.hok.fresh hsz)⟩
end
end RT
namespace FL
open PySem L2
section
variable {X : Cx} {P : Pm} {e : Expr} {fa : Mx Vl} {p p2 pos pos2 : Pos}
def mRev (fa : Mx Vl) : Mx (List PyData) := bnd fa fun x => opt (match x with
  | .dat (.list ds) => some ds.reverse
  | _ => none)
theorem drAll_rev {K : PySem.W.Frag} {H : Hp} : ∀ {vs : List V} {ds : List PyData}, DRAll K H vs ds → DRAll K H vs.reverse ds.reverse
  | _, _, .nil => .nil
  | _, _, .cons h r => by
    rw [List.reverse_cons, List.reverse_cons]
    exact DRAll.append (drAll_rev r) (.cons h .nil)
theorem fl_listRev (he : FE X P e fa) (hm : X.mg "list" = none) (hm2 : X.mg "reversed" = none) (hc : X.calm = true := by rfl) (hg : Gl X "list" := by rfl) (hg2 : Gl X "reversed" := by rfl)
    (hs : starEach [e] X.env = (false, eval e X.env) :: starEach [] X.env := by rfl)
    (hs2 : starEach [.Call (.Name "reversed" p2) [e] [] pos2] X.env = (false, eval (.Call (.Name "reversed" p2) [e] [] pos2) X.env) :: starEach [] X.env := by rfl) :
    FL X P (.Call (.Name "list" p) [.Call (.Name "reversed" p2) [e] [] pos2] [] pos) (mRev fa) := by
  refine PE.imp (RT.pe_listRev hc hg hm hg2 hm2 he hs hs2) ?_
  rintro σ H Q ⟨M, r, ss, rw, ds, rw', I, e, q⟩
  obtain ⟨y1, rw1, q1, e⟩ := bnd_some e
  obtain ⟨e, rfl⟩ := opt_some e
  cases y1 with
  | hse _ _ => cases e
  | dct _ => cases e
  | dat d =>
    cases d with
    | list es =>
      cases e
      refine ⟨M, r, ss, rw, _, _, I, q1, fun v H1 k1 I1 hv => ?_⟩
      obtain ⟨b, us, rfl, b1, b2⟩ := vr_lst hv
      refine ⟨b, us, rfl, SqL.of (mk_le _ H1 _ _ b1), fun p hp => ?_⟩
      have s5 : Same H1 (upd H1 p (.lst us.reverse)) := upd_same' hp
      refine q p _ _ (k1.trans (KeepR.of s5)) (I1.hideS s5 hp (by rw [upd_same]; simp)) (back_none k1 I1 hp) upd_same (drAll_mono (mk_same fun b o nn e => ⟨fun z => ?_, s5 b o e⟩) _ _ (drAll_rev b2))
      rcases z with (z | z) | z | z
      · exact nn (.inl z)
      · rw [z, hp] at e; cases e
      · exact nn (.inr (.inl z))
      · exact nn (.inr (.inr z))
    | _ => cases e
end
end FL
namespace FL
open PySem L2
theorem pe_callDN {X : Cx} {k : Nat} {x : Str} {ps : List Str} {sp : Sp} {e : Expr} {es : List Expr} {t : TA} {p pos : Pos} (D : Dn X.prog X.w X.K X.mg X.base CX0 k x ps sp) (hr : Room k X.A) (ha : PA X (e :: es) t)
    (hg : Gl X x := by rfl) (hdb : (x == ("__debug__" : Str)) = false := by decide) (he : starEach (e :: es) X.env = (false, eval e X.env) :: starEach es X.env := by rfl) (hpl : (backTo pos (starEach es X.env)).any (·.1) = false := by rfl) :
    PE X (.Call (.Name x p) (e :: es) [] pos) (tCall sp [] E0 t) := by
  obtain ⟨f, fd, G, h1, h2, h3⟩ := D
  exact pe_call G hr hg h1 h2 h3 .nil pass0 ha hdb he hpl
end FL
namespace Law
open PySem L2 FL
def topS (i : Nat) : Stmt := PySem.Challenge.pw_trendhouse_k07_whole_more_ties_never_let.main.body.getD i (.Pass ⟨0, 0, 0, 0⟩)
structure Tx (K : PySem.W.Frag) (w : World) (mg : Str → Option Value) (C : Addr) : Prop where
  cH : Cls K C
  h_things : NoAttr K C "_things"
  h_ties : NoAttr K C "_ties"
  n_ValueError : mg "ValueError" = none
  n_len : mg "len" = none
  n_tuple : mg "tuple" = none
  n_list : mg "list" = none
  n_int : mg "int" = none
  n_all : mg "all" = none
  n_range : mg "range" = none
  n_enumerate : mg "enumerate" = none
  n_zip : mg "zip" = none
  n_isinstance : mg "isinstance" = none
  n_sorted : mg "sorted" = none
  n_set : mg "set" = none
  n_reversed : mg "reversed" = none
  g_TRENDS : ∃ a, mg "TRENDS" = some (.ref a) ∧ ∀ H, DR K H (.ref a) (.tuple [(.int (-1)), (.int 0), (.int 1)])
  g_LETTERS : ∃ t, mg "LETTERS" = some (.str (PySem.Str.ofString "abcdefghijklmnopqrstuvwxyz") t)
  g_LONGEST_NAME : ∃ t, mg "LONGEST_NAME" = some (.int 8 t)
  g_MOST_THINGS : ∃ t, mg "MOST_THINGS" = some (.int 3 t)
  g_MOST_MARKS : ∃ t, mg "MOST_MARKS" = some (.int 3 t)
  g_MOST_TIES : ∃ t, mg "MOST_TIES" = some (.int 6 t)
  g_LOWEST_MARK : ∃ t, mg "LOWEST_MARK" = some (.int (-99) t)
  g_HIGHEST_MARK : ∃ t, mg "HIGHEST_MARK" = some (.int 99 t)
  g_LEAST_GAP : ∃ t, mg "LEAST_GAP" = some (.int 2 t)
  g_THINGS_NAMED : Gd K w mg "THINGS_NAMED" [(PySem.Str.ofString "with", 2), (PySem.Str.ofString "against", 2), (PySem.Str.ofString "sum", 3), (PySem.Str.ofString "product", 3), (PySem.Str.ofString "rate", 2), (PySem.Str.ofString "under", 1), (PySem.Str.ofString "over", 1)]
  g_MARK_WORDS : ∃ a, mg "MARK_WORDS" = some (.ref a) ∧ ∀ H, DR K H (.ref a) (.tuple [(.str (PySem.Str.ofString "rate")), (.str (PySem.Str.ofString "under")), (.str (PySem.Str.ofString "over"))])
def F_House_things : List Vl → Option (List PyData)
  | [.hse t _] => some t
  | _ => none
def F_House_ties : List Vl → Option (List PyData)
  | [.hse _ t] => some t
  | _ => none
section
structure Tex (K : PySem.W.Frag) (mg : Str → Option Value) (fx : Nat → Addr) (CT : Addr) : Prop where
  x1 : Xo K mg "BadRoom" (fx 1)
/-- a suite that tells True of a BadRoom -/
def sx1 (ex : Exn) : Option Vl := if ex.c = 1 ∧ ex.fs.isEmpty = true then some (.dat (.bool true)) else none
theorem sx1_eq {ex : Exn} {x : Vl} (h : sx1 ex = some x) : ex.c = 1 ∧ ex.fs = [] ∧ x = .dat (.bool true) := by
  unfold sx1 at h
  split at h
  next e =>
    cases h
    exact ⟨e.1, List.isEmpty_iff.mp e.2, rfl⟩
  next => cases h
variable {Pg : Program} {w : World} {K : PySem.W.Frag} {mg : Str → Option Value} {base : Heap} {ns : List Int} {C : Addr} {fx : Nat → Addr} {CT : Addr}
abbrev s__law_taken : Stmt := topS 43
abbrev N__law_taken : List Str := ["_law_row", "_law_many", "_law_cell"]
theorem sc__law_taken : FnScope N__law_taken ["_law_row", "_law_many"] (defScope s__law_taken) := ⟨rfl, rfl, rfl, by decide +kernel, rfl, by decide +kernel, by decide +kernel⟩
def m__law_taken (ns : List Int) : Sx := (sSeq (sRow 0 false (m2 addD (mRow1 0) (mC (.int 1)))) (sSeq (sIf (mTst (m2 gtD (mRow1 0) (mRowLen 0 ns.length))) (sSeq (sRow 0 true (m2 modD (m2 addD (m2 mulD (mRow2 0) (mC (.int 48271))) (mC (.int 11))) (mC (.int 2147483647)))) (sRet (m2 modD (m2 fdivD (mRow2 0) (mC (.int 7))) (mVar 1)))) sNx) (sSeq (sSet 2 (mRowAt 0 ns (m2 subD (mRow1 0) (mC (.int 1))))) (sSeq (sRow 0 true (m2 modD (m2 addD (m2 addD (m2 mulD (mRow2 0) (mC (.int 48271))) (mVar 2)) (mC (.int 11))) (mC (.int 2147483647)))) (sRet (m2 modD (mVar 2) (mVar 1)))))))
def F__law_taken (ns : List Int) : List Vl → Ro → Option (Vl × Ro) := bodyR 3 1 (m__law_taken ns)
theorem ok__law_taken (T : Tx K w mg C) (h : Hr K mg "_law_taken" s__law_taken) : Dn Pg w K mg base CX0 1 "_law_taken" ["_law_row", "_law_many"] (spR (pm K ns C) (F__law_taken ns)) :=
  dn_R (fx := fun _ => 0) h sc__law_taken (by decide) (by decide) (fun _ _ _ _ _ _ us hl => match us, hl with | [_, _], _ => rfl) (fun f cdv A outer s H E hr => 
    (fss_cons (fs_row1 (pv 0) (fe_op op_addD ok_add (fe_row1 (pv 0)) fe_int)) (fss_cons (fs_if (ft_cmp op_gt ok_gt (fe_row1 (pv 0)) (fe_rowLen (pv 0) T.n_len) (nomark _)) (fss_cons (fs_row2 (pv 0) (fe_op op_mod ok_mod (fe_op op_addD ok_add (fe_op op_mulD ok_mul (fe_row2 (pv 0)) fe_int) fe_int) fe_int)) (fss_one (fs_ret (fe_op op_mod ok_mod (fe_op op_fdiv ok_fdiv (fe_row2 (pv 0)) fe_int) (fe_var 1))))) fss_nil) (fss_cons (fs_set (i := 2) rfl (by first | exact Or.inl rfl | exact Or.inr rfl) (fe_rowAt (pv 0) (fe_op op_sub ok_sub (fe_row1 (pv 0)) fe_int)) sc__law_taken.nd (Or.inl rfl)) (fss_cons (fs_row2 (pv 0) (fe_op op_mod ok_mod (fe_op op_addD ok_add (fe_op op_addD ok_add (fe_op op_mulD ok_mul (fe_row2 (pv 0)) fe_int) (fe_var 2)) fe_int) fe_int)) (fss_one (fs_ret (fe_op op_mod ok_mod (fe_var 2) (fe_var 1)))))))))
abbrev s__law_marks : Stmt := topS 44
abbrev N__law_marks : List Str := ["_law_row", "_law_many", "_law_far", "_law_found", "_law_k", "_law_begin", "_law_mark"]
theorem sc__law_marks : FnScope N__law_marks ["_law_row", "_law_many", "_law_far"] (defScope s__law_marks) := ⟨rfl, rfl, rfl, by decide +kernel, rfl, by decide +kernel, by decide +kernel⟩
def m__law_marks (ns : List Int) : Sx := (sSeq (sOwn 3 (mLst (mCons (mC (.int 0)) mNil))) (sSeq (sFor (mRg1 (m2 subD (mVar 1) (mC (.int 1)))) (gNm 4) (sApp 3 (m2 addD (m2 addD (mIxV 3 (m1 negD (mC (.int 1)))) (mC (.int 2))) (mCallR 0 (F__law_taken ns) (mCons (mVar 2) mNil))))) (sSeq (sSet 5 (m2 subD (mCallR 0 (F__law_taken ns) (mCons (m2 subD (mC (.int 199)) (mIxV 3 (m1 negD (mC (.int 1))))) mNil)) (mC (.int 99)))) (sSeq (sIf (mTst (m2 eqD (mCallR 0 (F__law_taken ns) (mCons (mC (.int 6)) mNil)) (mC (.int 5)))) (sSet 5 (m2 ixD (mList (mLst (mCons (m2 subD (mC (.int 0)) (mC (.int 99))) (mCons (m2 subD (mC (.int 99)) (mIxV 3 (m1 negD (mC (.int 1))))) mNil)))) (mCallR 0 (F__law_taken ns) (mCons (mC (.int 2)) mNil)))) sNx) (sFrz 3 (sRet (m1 tupleD (mList (mLc [6] (mSeq (mVar 3)) (gNm 6) mYes (m2 addD (mVar 5) (mVar 6)))))))))))
def F__law_marks (ns : List Int) : List Vl → Ro → Option (Vl × Ro) := bodyR 7 2 (m__law_marks ns)
theorem ok__law_marks (T : Tx K w mg C) (h : Hr K mg "_law_marks" s__law_marks) (D__law_taken : Dn Pg w K mg base CX0 1 "_law_taken" ["_law_row", "_law_many"] (spR (pm K ns C) (F__law_taken ns))) : Dn Pg w K mg base CX0 2 "_law_marks" ["_law_row", "_law_many", "_law_far"] (spR (pm K ns C) (F__law_marks ns)) :=
  dn_R (fx := fun _ => 0) h sc__law_marks (by decide) (by decide) (fun _ _ _ _ _ _ us hl => match us, hl with | [_, _, _], _ => rfl) (fun f cdv A outer s H E hr => 
    (fss_cons (fs_own (i := 3) rfl (by first | exact Or.inl rfl | exact Or.inr rfl) (fl_lst (fa_cons fe_int fa_nil)) sc__law_marks.nd (Or.inl rfl)) (fss_cons (fs_for (fi_rg1 (fe_op op_sub ok_sub (fe_var 1) fe_int) T.n_range) (pg_name (i := 4) sc__law_marks.nd rfl (by first | exact Or.inl rfl | exact Or.inr rfl) (by first | exact Or.inl rfl | exact Or.inr rfl)) (gok_name 4) (fss_one (fs_append (pv 3) (fe_op op_addD ok_add (fe_op op_addD ok_add (fe_ixV (pv 3) (fe_un un_neg ok_neg fe_int)) fe_int) (fe_callRD D__law_taken (hr.mono (by decide)) (pv 0) (fa_cons (fe_var 2) fa_nil))))) PassesOwn.never) (fss_cons (fs_set (i := 5) rfl (by first | exact Or.inl rfl | exact Or.inr rfl) (fe_op op_sub ok_sub (fe_callRD D__law_taken (hr.mono (by decide)) (pv 0) (fa_cons (fe_op op_sub ok_sub fe_int (fe_ixV (pv 3) (fe_un un_neg ok_neg fe_int))) fa_nil)) fe_int) sc__law_marks.nd (Or.inl rfl)) (fss_cons (fs_if (ft_cmp (op_eqDD (hu64 hr)) ok_eq (fe_callRD D__law_taken (hr.mono (by decide)) (pv 0) (fa_cons fe_int fa_nil)) fe_int (nomark _)) (fss_one (fs_set (i := 5) rfl (by first | exact Or.inl rfl | exact Or.inr rfl) (fe_ix (fe_list (fl_lst (fa_cons (fe_op op_sub ok_sub fe_int fe_int) (fa_cons (fe_op op_sub ok_sub fe_int (fe_ixV (pv 3) (fe_un un_neg ok_neg fe_int))) fa_nil)))) (fe_callRD D__law_taken (hr.mono (by decide)) (pv 0) (fa_cons fe_int fa_nil))) sc__law_marks.nd (Or.inl rfl))) fss_nil) (fss_one (fs_frz 3 (fs_ret (fe_t1 FL.call_tupD ok_tuple T.n_tuple (by decide +kernel) (fe_list (fl_lc (fi_seq (fe_var 3)) (blkOk_by (own := [("_law_mark", 6)]) (N := N__law_marks) (sc := defScope s__law_marks) (by decide +kernel)) rfl (gok_name 6) (fun _ _ _ _ _ => (pg_name (i := 6) sc__law_marks.nd rfl (by first | exact Or.inl rfl | exact Or.inr rfl) (by first | exact Or.inl rfl | exact Or.inr rfl))) (fun _ _ _ _ _ => fts_nil) (fun _ _ _ _ _ => (fe_op op_addD ok_add (fe_var 5) (fe_var 6))) sc__law_marks.nd)))))))))))
abbrev s__law_things : Stmt := topS 45
abbrev N__law_things : List Str := ["_law_row", "_law_most", "_law_long", "_law_turn", "_law_base", "_law_cut", "_law_within", "_law_far", "_law_things_here", "_law_k", "_law_sign", "_law_name"]
theorem sc__law_things : FnScope N__law_things ["_law_row", "_law_most", "_law_long"] (defScope s__law_things) := ⟨rfl, rfl, rfl, by decide +kernel, rfl, by decide +kernel, by decide +kernel⟩
def m__law_things (ns : List Int) : Sx := (sSeq (sSet 3 (mCallR 0 (F__law_taken ns) (mCons (mC (.int 26)) mNil))) (sSeq (sSet 4 (m2 joinD (mC (.str (PySem.Str.ofString ""))) (mList (mLc [9] (mRg1 (mC (.int 8))) (gNm 9) mYes (m2 ixD (mC (.str (PySem.Str.ofString "abcdefghijklmnopqrstuvwxyz"))) (m2 modD (m2 addD (mVar 3) (m2 mulD (mC (.int 7)) (mVar 9))) (mC (.int 26)))))))) (sSeq (sSet 5 (mCallR 0 (F__law_taken ns) (mCons (mC (.int 6)) mNil))) (sSeq (sSet 6 (m2 eqD (mCallR 0 (F__law_taken ns) (mCons (mC (.int 3)) mNil)) (mC (.int 2)))) (sSeq (sSet 7 (m2 ixD (mList (mLst (mCons (mC (.int 1)) (mCons (mC (.int 4)) (mCons (mC (.int 60)) mNil))))) (mCallR 0 (F__law_taken ns) (mCons (mC (.int 3)) mNil)))) (sSeq (sOwn 8 (mLst mNil)) (sSeq (sFor (mRg1 (m2 addD (mC (.int 1)) (mCallR 0 (F__law_taken ns) (mCons (mVar 1) mNil)))) (gNm 9) (sSeq (sSet 10 (m2 ixD (mC (.str (PySem.Str.ofString "abcdefghijklmnopqrstuvwxyz"))) (m2 modD (m2 addD (m2 addD (mVar 3) (mC (.int 3))) (m2 mulD (mC (.int 5)) (mVar 9))) (mC (.int 26))))) (sSeq (sSet 11 (m2 ixD (mList (mLst (mCons (m2 addD (mSl (mVar 4) mNone (mSome (mVar 5))) (mVar 10)) (mCons (mSl (mVar 4) mNone (mSome (m2 addD (m2 addD (mVar 5) (mC (.int 1))) (mVar 9)))) mNil)))) (m1 intD (mVar 6)))) (sApp 8 (mTup (mCons (mVar 11) (mCons (mCallR 0 (F__law_marks ns) (mCons (m2 addD (mC (.int 1)) (mCallR 0 (F__law_taken ns) (mCons (mVar 2) mNil))) (mCons (mVar 7) mNil))) mNil))))))) (sRetO 8))))))))
def F__law_things (ns : List Int) : List Vl → Ro → Option (Vl × Ro) := bodyR 12 2 (m__law_things ns)
theorem ok__law_things (T : Tx K w mg C) (h : Hr K mg "_law_things" s__law_things) (D__law_taken : Dn Pg w K mg base CX0 1 "_law_taken" ["_law_row", "_law_many"] (spR (pm K ns C) (F__law_taken ns))) (D__law_marks : Dn Pg w K mg base CX0 2 "_law_marks" ["_law_row", "_law_many", "_law_far"] (spR (pm K ns C) (F__law_marks ns))) : Dn Pg w K mg base CX0 3 "_law_things" ["_law_row", "_law_most", "_law_long"] (spR (pm K ns C) (F__law_things ns)) :=
  dn_R (fx := fun _ => 0) h sc__law_things (by decide) (by decide) (fun _ _ _ _ _ _ us hl => match us, hl with | [_, _, _], _ => rfl) (fun f cdv A outer s H E hr => 
    (fss_cons (fs_set (i := 3) rfl (by first | exact Or.inl rfl | exact Or.inr rfl) (fe_callRD D__law_taken (hr.mono (by decide)) (pv 0) (fa_cons fe_int fa_nil)) sc__law_things.nd (Or.inl rfl)) (fss_cons (fs_set (i := 4) rfl (by first | exact Or.inl rfl | exact Or.inr rfl) (fe_join fe_str (fe_list (fl_lc (fi_rg1 fe_int T.n_range) (blkOk_by (own := [("_law_k", 9)]) (N := N__law_things) (sc := defScope s__law_things) (by decide +kernel)) rfl (gok_name 9) (fun _ _ _ _ _ => (pg_name (i := 9) sc__law_things.nd rfl (by first | exact Or.inl rfl | exact Or.inr rfl) (by first | exact Or.inl rfl | exact Or.inr rfl))) (fun _ _ _ _ _ => fts_nil) (fun _ _ _ _ _ => (fe_ix fe_str (fe_op op_mod ok_mod (fe_op op_addD ok_add (fe_var 3) (fe_op op_mulD ok_mul fe_int (fe_var 9))) fe_int))) sc__law_things.nd))) sc__law_things.nd (Or.inl rfl)) (fss_cons (fs_set (i := 5) rfl (by first | exact Or.inl rfl | exact Or.inr rfl) (fe_callRD D__law_taken (hr.mono (by decide)) (pv 0) (fa_cons fe_int fa_nil)) sc__law_things.nd (Or.inl rfl)) (fss_cons (fs_set (i := 6) rfl (by first | exact Or.inl rfl | exact Or.inr rfl) (fe_cmp (op_eqDD (hu64 hr)) ok_eq (fe_callRD D__law_taken (hr.mono (by decide)) (pv 0) (fa_cons fe_int fa_nil)) fe_int (nomark _)) sc__law_things.nd (Or.inl rfl)) (fss_cons (fs_set (i := 7) rfl (by first | exact Or.inl rfl | exact Or.inr rfl) (fe_ix (fe_list (fl_lst (fa_cons fe_int (fa_cons fe_int (fa_cons fe_int fa_nil))))) (fe_callRD D__law_taken (hr.mono (by decide)) (pv 0) (fa_cons fe_int fa_nil))) sc__law_things.nd (Or.inl rfl)) (fss_cons (fs_own (i := 8) rfl (by first | exact Or.inl rfl | exact Or.inr rfl) (fl_lst fa_nil) sc__law_things.nd (Or.inl rfl)) (fss_cons (fs_for (fi_rg1 (fe_op op_addD ok_add fe_int (fe_callRD D__law_taken (hr.mono (by decide)) (pv 0) (fa_cons (fe_var 1) fa_nil))) T.n_range) (pg_name (i := 9) sc__law_things.nd rfl (by first | exact Or.inl rfl | exact Or.inr rfl) (by first | exact Or.inl rfl | exact Or.inr rfl)) (gok_name 9) (fss_cons (fs_set (i := 10) rfl (by first | exact Or.inl rfl | exact Or.inr rfl) (fe_ix fe_str (fe_op op_mod ok_mod (fe_op op_addD ok_add (fe_op op_addD ok_add (fe_var 3) fe_int) (fe_op op_mulD ok_mul fe_int (fe_var 9))) fe_int)) sc__law_things.nd (Or.inl rfl)) (fss_cons (fs_set (i := 11) rfl (by first | exact Or.inl rfl | exact Or.inr rfl) (fe_ix (fe_list (fl_lst (fa_cons (fe_op op_addD ok_add (fe_sl (fe_var 4) fo_none (fo_some (fe_var 5))) (fe_var 10)) (fa_cons (fe_sl (fe_var 4) fo_none (fo_some (fe_op op_addD ok_add (fe_op op_addD ok_add (fe_var 5) fe_int) (fe_var 9)))) fa_nil)))) (fe_t1 FL.call_intD ok_int T.n_int (by decide +kernel) (fe_var 6))) sc__law_things.nd (Or.inl rfl)) (fss_one (fs_append (pv 8) (fe_tup (fa_cons (fe_var 11) (fa_cons (fe_callRD D__law_marks (hr.mono (by decide)) (pv 0) (fa_cons (fe_op op_addD ok_add fe_int (fe_callRD D__law_taken (hr.mono (by decide)) (pv 0) (fa_cons (fe_var 2) fa_nil))) (fa_cons (fe_var 7) fa_nil))) fa_nil))))))) PassesOwn.never) (fss_one (fs_retO (pv 8)))))))))))
abbrev s__law_few : Stmt := topS 46
abbrev N__law_few : List Str := ["_law_row", "_law_things_here", "_law_name", "_law_marks_here"]
theorem sc__law_few : FnScope N__law_few ["_law_row"] (defScope s__law_few) := ⟨rfl, rfl, rfl, by decide +kernel, rfl, by decide +kernel, by decide +kernel⟩
def m__law_few (ns : List Int) : Sx := (sSeq (sSet 1 (mCallR 0 (F__law_things ns) (mCons (mC (.int 3)) (mCons (mC (.int 3)) mNil)))) (sRet (mList (mLc [2, 3] (mSeq (mVar 1)) (gTp 2 (gsCons (gNm 2) (gsCons (gNm 3) gsNil))) mYes (mTup (mCons (mVar 2) (mCons (mSl (mVar 3) mNone (mSome (m2 ixD (mList (mLst (mCons (mC (.int 3)) (mCons (mC (.int 3)) (mCons (mC (.int 1)) mNil))))) (m2 subD (m1 lenD (mVar 1)) (mC (.int 1)))))) mNil)))))))
def F__law_few (ns : List Int) : List Vl → Ro → Option (Vl × Ro) := bodyR 4 0 (m__law_few ns)
theorem ok__law_few (T : Tx K w mg C) (h : Hr K mg "_law_few" s__law_few) (D__law_things : Dn Pg w K mg base CX0 3 "_law_things" ["_law_row", "_law_most", "_law_long"] (spR (pm K ns C) (F__law_things ns))) : Dn Pg w K mg base CX0 4 "_law_few" ["_law_row"] (spR (pm K ns C) (F__law_few ns)) :=
  dn_R (fx := fun _ => 0) h sc__law_few (by decide) (by decide) (fun _ _ _ _ _ _ us hl => match us, hl with | [_], _ => rfl) (fun f cdv A outer s H E hr => 
    (fss_cons (fs_set (i := 1) rfl (by first | exact Or.inl rfl | exact Or.inr rfl) (fe_callRD D__law_things (hr.mono (by decide)) (pv 0) (fa_cons fe_int (fa_cons fe_int fa_nil))) sc__law_few.nd (Or.inl rfl)) (fss_one (fs_ret (fe_list (fl_lc (fi_seq (fe_var 1)) (blkOk_by (own := [("_law_name", 2), ("_law_marks_here", 3)]) (N := N__law_few) (sc := defScope s__law_few) (by decide +kernel)) rfl (gok_tup 2 (gsok_cons (gok_name 2) (gsok_cons (gok_name 3) gsok_nil))) (fun _ _ _ _ _ => (pg_tup rfl (pgs_cons (pg_name (i := 2) sc__law_few.nd rfl (by first | exact Or.inl rfl | exact Or.inr rfl) (by first | exact Or.inl rfl | exact Or.inr rfl)) (pgs_cons (pg_name (i := 3) sc__law_few.nd rfl (by first | exact Or.inl rfl | exact Or.inr rfl) (by first | exact Or.inl rfl | exact Or.inr rfl)) pgs_nil)))) (fun _ _ _ _ _ => fts_nil) (fun _ _ _ _ _ => (fe_tup (fa_cons (fe_var 2) (fa_cons (fe_sl (fe_var 3) fo_none (fo_some (fe_ix (fe_list (fl_lst (fa_cons fe_int (fa_cons fe_int (fa_cons fe_int fa_nil))))) (fe_op op_sub ok_sub (fe_b1 FL.call_lenD ok_len T.n_len (by decide +kernel) (fe_var 1)) fe_int)))) fa_nil)))) sc__law_few.nd))))))
abbrev s__law_tie : Stmt := topS 47
abbrev N__law_tie : List Str := ["_law_row", "_law_things_here", "_law_one", "_law_rest", "_law_way", "_law_other", "_law_k"]
theorem sc__law_tie : FnScope N__law_tie ["_law_row", "_law_things_here"] (defScope s__law_tie) := ⟨rfl, rfl, rfl, by decide +kernel, rfl, by decide +kernel, by decide +kernel⟩
def m__law_tie (ns : List Int) : Sx := (sSeq (sSet 2 (mCallR 0 (F__law_taken ns) (mCons (m1 lenD (mVar 1)) mNil))) (sSeq (sSet 3 (mList (mLc [6] (mRg1 (m1 lenD (mVar 1))) (gNm 6) (mTst (m2 neD (mVar 6) (mVar 2))) (mVar 6)))) (sSeq (sSet 4 (mCallR 0 (F__law_taken ns) (mCons (m2 ixD (mList (mLst (mCons (mC (.int 3)) (mCons (mC (.int 8)) mNil)))) (m1 intD (m2 neD (mVar 3) (mList (mLst mNil))))) mNil))) (sSeq (sIf (mTst (m2 eqD (mVar 4) (mC (.int 0)))) (sSeq (sSet 5 (mCallR 0 (F__law_taken ns) (mCons (m1 lenD (mVar 1)) mNil))) (sRet (mTup (mCons (mC (.str (PySem.Str.ofString "rate"))) (mCons (mVar 2) (mCons (mVar 5) (mCons (mCallR 0 (F__law_taken ns) (mCons (m1 lenD (m2 ixD (m2 ixD (mVar 1) (mVar 5)) (mC (.int 1)))) mNil)) mNil))))))) sNx) (sSeq (sIf (mTst (m2 ltD (mVar 4) (mC (.int 3)))) (sRet (mTup (mCons (m2 ixD (mList (mLst (mCons (mC (.str (PySem.Str.ofString "under"))) (mCons (mC (.str (PySem.Str.ofString "over"))) mNil)))) (m2 subD (mVar 4) (mC (.int 1)))) (mCons (mVar 2) (mCons (mCallR 0 (F__law_taken ns) (mCons (m1 lenD (m2 ixD (m2 ixD (mVar 1) (mVar 2)) (mC (.int 1)))) mNil)) mNil))))) sNx) (sSeq (sSet 5 (m2 ixD (mVar 3) (mCallR 0 (F__law_taken ns) (mCons (m1 lenD (mVar 3)) mNil)))) (sSeq (sIf (mTst (m2 ltD (mVar 4) (mC (.int 6)))) (sRet (mTup (mCons (m2 ixD (mList (mLst (mCons (mC (.str (PySem.Str.ofString "with"))) (mCons (mC (.str (PySem.Str.ofString "against"))) (mCons (mC (.str (PySem.Str.ofString "with"))) mNil))))) (m2 subD (mVar 4) (mC (.int 3)))) (mCons (mVar 2) (mCons (mVar 5) mNil))))) sNx) (sRet (mTup (mCons (m2 ixD (mList (mLst (mCons (mC (.str (PySem.Str.ofString "sum"))) (mCons (mC (.str (PySem.Str.ofString "product"))) mNil)))) (m2 subD (mVar 4) (mC (.int 6)))) (mCons (mVar 2) (mCons (mVar 5) (mCons (m2 ixD (mVar 3) (mCallR 0 (F__law_taken ns) (mCons (m1 lenD (mVar 3)) mNil))) mNil)))))))))))))
def F__law_tie (ns : List Int) : List Vl → Ro → Option (Vl × Ro) := bodyR 7 1 (m__law_tie ns)
theorem ok__law_tie (T : Tx K w mg C) (h : Hr K mg "_law_tie" s__law_tie) (D__law_taken : Dn Pg w K mg base CX0 1 "_law_taken" ["_law_row", "_law_many"] (spR (pm K ns C) (F__law_taken ns))) : Dn Pg w K mg base CX0 2 "_law_tie" ["_law_row", "_law_things_here"] (spR (pm K ns C) (F__law_tie ns)) :=
  dn_R (fx := fun _ => 0) h sc__law_tie (by decide) (by decide) (fun _ _ _ _ _ _ us hl => match us, hl with | [_, _], _ => rfl) (fun f cdv A outer s H E hr => 
    (fss_cons (fs_set (i := 2) rfl (by first | exact Or.inl rfl | exact Or.inr rfl) (fe_callRD D__law_taken (hr.mono (by decide)) (pv 0) (fa_cons (fe_b1 FL.call_lenD ok_len T.n_len (by decide +kernel) (fe_var 1)) fa_nil)) sc__law_tie.nd (Or.inl rfl)) (fss_cons (PS.imp (st_lc (i := 3) rfl rfl (sw_true rfl rfl rfl (by decide +kernel)) (fi_rg1 (fe_b1 FL.call_lenD ok_len T.n_len (by decide +kernel) (fe_var 1)) T.n_range) (blkOk_by (own := [("_law_k", 6)]) (N := N__law_tie) (sc := defScope s__law_tie) (by decide +kernel)) rfl (gok_name 6) (fun _ _ _ _ _ => (pg_name (i := 6) sc__law_tie.nd rfl (by first | exact Or.inl rfl | exact Or.inr rfl) (by first | exact Or.inl rfl | exact Or.inr rfl))) (fun _ _ _ _ _ => (fts_one (ft_cmp (op_neDD (hu64 hr)) ok_ne (fe_var 6) (fe_var 2) (nomark _)))) (fun _ _ _ _ _ => (fe_var 6)) sc__law_tie.nd) (tS_set fun _ _ _ h => tE_list h)) (fss_cons (fs_set (i := 4) rfl (by first | exact Or.inl rfl | exact Or.inr rfl) (fe_callRD D__law_taken (hr.mono (by decide)) (pv 0) (fa_cons (fe_ix (fe_list (fl_lst (fa_cons fe_int (fa_cons fe_int fa_nil)))) (fe_t1 FL.call_intD ok_int T.n_int (by decide +kernel) (fe_cmp (op_neDD (hu64 hr)) ok_ne (fe_var 3) (fe_list (fl_lst fa_nil)) (nomark _)))) fa_nil)) sc__law_tie.nd (Or.inl rfl)) (fss_cons (fs_if (ft_cmp (op_eqDD (hu64 hr)) ok_eq (fe_var 4) fe_int (nomark _)) (fss_cons (fs_set (i := 5) rfl (by first | exact Or.inl rfl | exact Or.inr rfl) (fe_callRD D__law_taken (hr.mono (by decide)) (pv 0) (fa_cons (fe_b1 FL.call_lenD ok_len T.n_len (by decide +kernel) (fe_var 1)) fa_nil)) sc__law_tie.nd (Or.inl rfl)) (fss_one (fs_ret (fe_tup (fa_cons fe_str (fa_cons (fe_var 2) (fa_cons (fe_var 5) (fa_cons (fe_callRD D__law_taken (hr.mono (by decide)) (pv 0) (fa_cons (fe_b1 FL.call_lenD ok_len T.n_len (by decide +kernel) (fe_ix (fe_ix (fe_var 1) (fe_var 5)) fe_int)) fa_nil)) fa_nil)))))))) fss_nil) (fss_cons (fs_if (ft_cmp op_lt ok_lt (fe_var 4) fe_int (nomark _)) (fss_one (fs_ret (fe_tup (fa_cons (fe_ix (fe_list (fl_lst (fa_cons fe_str (fa_cons fe_str fa_nil)))) (fe_op op_sub ok_sub (fe_var 4) fe_int)) (fa_cons (fe_var 2) (fa_cons (fe_callRD D__law_taken (hr.mono (by decide)) (pv 0) (fa_cons (fe_b1 FL.call_lenD ok_len T.n_len (by decide +kernel) (fe_ix (fe_ix (fe_var 1) (fe_var 2)) fe_int)) fa_nil)) fa_nil)))))) fss_nil) (fss_cons (fs_set (i := 5) rfl (by first | exact Or.inl rfl | exact Or.inr rfl) (fe_ix (fe_var 3) (fe_callRD D__law_taken (hr.mono (by decide)) (pv 0) (fa_cons (fe_b1 FL.call_lenD ok_len T.n_len (by decide +kernel) (fe_var 3)) fa_nil))) sc__law_tie.nd (Or.inl rfl)) (fss_cons (fs_if (ft_cmp op_lt ok_lt (fe_var 4) fe_int (nomark _)) (fss_one (fs_ret (fe_tup (fa_cons (fe_ix (fe_list (fl_lst (fa_cons fe_str (fa_cons fe_str (fa_cons fe_str fa_nil))))) (fe_op op_sub ok_sub (fe_var 4) fe_int)) (fa_cons (fe_var 2) (fa_cons (fe_var 5) fa_nil)))))) fss_nil) (fss_one (fs_ret (fe_tup (fa_cons (fe_ix (fe_list (fl_lst (fa_cons fe_str (fa_cons fe_str fa_nil)))) (fe_op op_sub ok_sub (fe_var 4) fe_int)) (fa_cons (fe_var 2) (fa_cons (fe_var 5) (fa_cons (fe_ix (fe_var 3) (fe_callRD D__law_taken (hr.mono (by decide)) (pv 0) (fa_cons (fe_b1 FL.call_lenD ok_len T.n_len (by decide +kernel) (fe_var 3)) fa_nil))) fa_nil)))))))))))))))
abbrev s__law_ties : Stmt := topS 48
abbrev N__law_ties : List Str := ["_law_row", "_law_things_here", "_law_most", "_law_k"]
theorem sc__law_ties : FnScope N__law_ties ["_law_row", "_law_things_here", "_law_most"] (defScope s__law_ties) := ⟨rfl, rfl, rfl, by decide +kernel, rfl, by decide +kernel, by decide +kernel⟩
def m__law_ties (ns : List Int) : Sx := (sRet (mList (mLc [3] (mRg1 (mCallR 0 (F__law_taken ns) (mCons (m2 ixD (mList (mLst (mCons (mC (.int 3)) (mCons (m2 addD (mVar 2) (mC (.int 1))) mNil)))) (mCallR 0 (F__law_taken ns) (mCons (mC (.int 2)) mNil))) mNil))) (gNm 3) mYes (mCallR 0 (F__law_tie ns) (mCons (mVar 1) mNil)))))
def F__law_ties (ns : List Int) : List Vl → Ro → Option (Vl × Ro) := bodyR 4 2 (m__law_ties ns)
theorem ok__law_ties (T : Tx K w mg C) (h : Hr K mg "_law_ties" s__law_ties) (D__law_taken : Dn Pg w K mg base CX0 1 "_law_taken" ["_law_row", "_law_many"] (spR (pm K ns C) (F__law_taken ns))) (D__law_tie : Dn Pg w K mg base CX0 2 "_law_tie" ["_law_row", "_law_things_here"] (spR (pm K ns C) (F__law_tie ns))) : Dn Pg w K mg base CX0 3 "_law_ties" ["_law_row", "_law_things_here", "_law_most"] (spR (pm K ns C) (F__law_ties ns)) :=
  dn_R (fx := fun _ => 0) h sc__law_ties (by decide) (by decide) (fun _ _ _ _ _ _ us hl => match us, hl with | [_, _, _], _ => rfl) (fun f cdv A outer s H E hr => 
    (fss_one (fs_ret (fe_list (fl_lc (fi_rg1 (fe_callRD D__law_taken (hr.mono (by decide)) (pv 0) (fa_cons (fe_ix (fe_list (fl_lst (fa_cons fe_int (fa_cons (fe_op op_addD ok_add (fe_var 2) fe_int) fa_nil)))) (fe_callRD D__law_taken (hr.mono (by decide)) (pv 0) (fa_cons fe_int fa_nil))) fa_nil)) T.n_range) (blkOk_by (own := [("_law_k", 3)]) (N := N__law_ties) (sc := defScope s__law_ties) (by decide +kernel)) rfl (gok_name 3) (fun _ _ _ _ _ => (pg_name (i := 3) sc__law_ties.nd rfl (by first | exact Or.inl rfl | exact Or.inr rfl) (by first | exact Or.inl rfl | exact Or.inr rfl))) (fun _ _ _ _ _ => fts_nil) (fun _ _ _ _ _ => (fe_callRD D__law_tie (hr.mono (by decide)) (pv 0) (fa_cons (fe_var 1) fa_nil))) sc__law_ties.nd)))))
abbrev s__law_keeps : Stmt := topS 50
abbrev N__law_keeps : List Str := ["_law_tie_here", "_law_room_here", "_law_word", "_law_trend", "_law_far", "_law_other", "_law_last", "_law_tried", "_law_one"]
theorem sc__law_keeps : FnScope N__law_keeps ["_law_tie_here", "_law_room_here"] (defScope s__law_keeps) := ⟨rfl, rfl, rfl, by decide +kernel, rfl, by decide +kernel, by decide +kernel⟩
def m__law_keeps : Sx := (sSeq (sSet 2 (m2 ixD (mVar 0) (mC (.int 0)))) (sSeq (sSet 3 (m2 ixD (m2 ixD (mVar 1) (m2 ixD (mVar 0) (mC (.int 1)))) (mC (.int 1)))) (sSeq (sIf (mTst (m2 inD (mVar 2) (mTup (mCons (mC (.str (PySem.Str.ofString "under"))) (mCons (mC (.str (PySem.Str.ofString "over"))) mNil))))) (sSeq (sSet 4 (m2 subD (m2 subD (m2 ixD (m2 ixD (mVar 1) (m2 ixD (mVar 0) (mC (.int 1)))) (mC (.int 0))) (m2 mulD (mC (.int 2)) (m2 ixD (mVar 0) (mC (.int 2))))) (mC (.int 1)))) (sRet (m2 leD (m2 mulD (mVar 4) (m2 ixD (mList (mLst (mCons (mC (.int 1)) (mCons (m2 subD (mC (.int 0)) (mC (.int 1))) mNil)))) (m1 intD (m2 eqD (mVar 2) (mC (.str (PySem.Str.ofString "over"))))))) (mC (.int 0))))) sNx) (sSeq (sIf (mTst (m2 eqD (mVar 2) (mC (.str (PySem.Str.ofString "rate"))))) (sSeq (sSet 4 (m2 subD (m2 subD (m2 ixD (m2 ixD (mVar 1) (m2 ixD (mVar 0) (mC (.int 2)))) (mC (.int 0))) (m2 mulD (mC (.int 2)) (m2 ixD (mVar 0) (mC (.int 3))))) (mC (.int 1)))) (sRet (mOrV (m2 gtD (m2 mulD (mVar 3) (mVar 4)) (mC (.int 0))) (mAndV (m2 eqD (mVar 3) (mC (.int 0))) (m2 eqD (mVar 4) (mC (.int 0))))))) sNx) (sSeq (sSet 5 (m2 ixD (m2 ixD (mVar 1) (m2 ixD (mVar 0) (mC (.int 2)))) (mC (.int 1)))) (sSeq (sIf (mTst (m2 inD (mVar 2) (mTup (mCons (mC (.str (PySem.Str.ofString "with"))) (mCons (mC (.str (PySem.Str.ofString "against"))) mNil))))) (sRet (m2 eqD (mVar 3) (m2 mulD (mVar 5) (m2 ixD (mList (mLst (mCons (mC (.int 1)) (mCons (m2 subD (mC (.int 0)) (mC (.int 1))) mNil)))) (m1 intD (m2 eqD (mVar 2) (mC (.str (PySem.Str.ofString "against"))))))))) sNx) (sSeq (sSet 6 (m2 ixD (m2 ixD (mVar 1) (m2 ixD (mVar 0) (mC (.int 3)))) (mC (.int 1)))) (sSeq (sIf (mTst (m2 eqD (mVar 2) (mC (.str (PySem.Str.ofString "product"))))) (sRet (m2 eqD (mVar 3) (m2 mulD (mVar 5) (mVar 6)))) sNx) (sSeq (sSet 7 (mList (mLst (mCons (m2 addD (mVar 5) (mVar 6)) (mCons (m2 addD (mVar 5) (m2 mulD (mC (.int 2)) (mVar 6))) (mCons (m2 addD (m2 mulD (mC (.int 2)) (mVar 5)) (mVar 6)) mNil)))))) (sRet (m2 neD (mList (mLc [8] (mSeq (mVar 7)) (gNm 8) (mOr (mTst (m2 gtD (m2 mulD (mVar 8) (mVar 3)) (mC (.int 0)))) (mAnd (mTst (m2 eqD (mVar 8) (mC (.int 0)))) (mTst (m2 eqD (mVar 3) (mC (.int 0)))))) (mVar 8))) (mList (mLst mNil)))))))))))))
def F__law_keeps : List Vl → Option Vl := bodyP 9 2 (m__law_keeps)
theorem ok__law_keeps (T : Tx K w mg C) (h : Hr K mg "_law_keeps" s__law_keeps) : Dn Pg w K mg base CX0 1 "_law_keeps" ["_law_tie_here", "_law_room_here"] (spP (pm K ns C) F__law_keeps) :=
  dn_P (fx := fun _ => 0) h sc__law_keeps (by decide) (fun _ _ _ _ _ _ us hl => match us, hl with | [_, _], _ => rfl) (fun f cdv A outer s H E hr => 
    (fss_cons (fs_set (i := 2) rfl (by first | exact Or.inl rfl | exact Or.inr rfl) (fe_ix (fe_var 0) fe_int) sc__law_keeps.nd (Or.inl rfl)) (fss_cons (fs_set (i := 3) rfl (by first | exact Or.inl rfl | exact Or.inr rfl) (fe_ix (fe_ix (fe_var 1) (fe_ix (fe_var 0) fe_int)) fe_int) sc__law_keeps.nd (Or.inl rfl)) (fss_cons (fs_if (ft_cmp (op_inDD (hu65 hr)) ok_in (fe_var 2) (fe_tup (fa_cons fe_str (fa_cons fe_str fa_nil))) (by with_unfolding_all rfl)) (fss_cons (fs_set (i := 4) rfl (by first | exact Or.inl rfl | exact Or.inr rfl) (fe_op op_sub ok_sub (fe_op op_sub ok_sub (fe_ix (fe_ix (fe_var 1) (fe_ix (fe_var 0) fe_int)) fe_int) (fe_op op_mulD ok_mul fe_int (fe_ix (fe_var 0) fe_int))) fe_int) sc__law_keeps.nd (Or.inl rfl)) (fss_one (fs_ret (fe_cmp op_le ok_le (fe_op op_mulD ok_mul (fe_var 4) (fe_ix (fe_list (fl_lst (fa_cons fe_int (fa_cons (fe_op op_sub ok_sub fe_int fe_int) fa_nil)))) (fe_t1 FL.call_intD ok_int T.n_int (by decide +kernel) (fe_cmp (op_eqDD (hu64 hr)) ok_eq (fe_var 2) fe_str (nomark _))))) fe_int (nomark _))))) fss_nil) (fss_cons (fs_if (ft_cmp (op_eqDD (hu64 hr)) ok_eq (fe_var 2) fe_str (nomark _)) (fss_cons (fs_set (i := 4) rfl (by first | exact Or.inl rfl | exact Or.inr rfl) (fe_op op_sub ok_sub (fe_op op_sub ok_sub (fe_ix (fe_ix (fe_var 1) (fe_ix (fe_var 0) fe_int)) fe_int) (fe_op op_mulD ok_mul fe_int (fe_ix (fe_var 0) fe_int))) fe_int) sc__law_keeps.nd (Or.inl rfl)) (fss_one (fs_ret (fe_or (fe_cmp op_gt ok_gt (fe_op op_mulD ok_mul (fe_var 3) (fe_var 4)) fe_int (nomark _)) (fe_one (fe_and (fe_cmp (op_eqDD (hu64 hr)) ok_eq (fe_var 3) fe_int (nomark _)) (fe_one (fe_cmp (op_eqDD (hu64 hr)) ok_eq (fe_var 4) fe_int (nomark _))))))))) fss_nil) (fss_cons (fs_set (i := 5) rfl (by first | exact Or.inl rfl | exact Or.inr rfl) (fe_ix (fe_ix (fe_var 1) (fe_ix (fe_var 0) fe_int)) fe_int) sc__law_keeps.nd (Or.inl rfl)) (fss_cons (fs_if (ft_cmp (op_inDD (hu65 hr)) ok_in (fe_var 2) (fe_tup (fa_cons fe_str (fa_cons fe_str fa_nil))) (by with_unfolding_all rfl)) (fss_one (fs_ret (fe_cmp (op_eqDD (hu64 hr)) ok_eq (fe_var 3) (fe_op op_mulD ok_mul (fe_var 5) (fe_ix (fe_list (fl_lst (fa_cons fe_int (fa_cons (fe_op op_sub ok_sub fe_int fe_int) fa_nil)))) (fe_t1 FL.call_intD ok_int T.n_int (by decide +kernel) (fe_cmp (op_eqDD (hu64 hr)) ok_eq (fe_var 2) fe_str (nomark _))))) (nomark _)))) fss_nil) (fss_cons (fs_set (i := 6) rfl (by first | exact Or.inl rfl | exact Or.inr rfl) (fe_ix (fe_ix (fe_var 1) (fe_ix (fe_var 0) fe_int)) fe_int) sc__law_keeps.nd (Or.inl rfl)) (fss_cons (fs_if (ft_cmp (op_eqDD (hu64 hr)) ok_eq (fe_var 2) fe_str (nomark _)) (fss_one (fs_ret (fe_cmp (op_eqDD (hu64 hr)) ok_eq (fe_var 3) (fe_op op_mulD ok_mul (fe_var 5) (fe_var 6)) (nomark _)))) fss_nil) (fss_cons (fs_set (i := 7) rfl (by first | exact Or.inl rfl | exact Or.inr rfl) (fe_list (fl_lst (fa_cons (fe_op op_addD ok_add (fe_var 5) (fe_var 6)) (fa_cons (fe_op op_addD ok_add (fe_var 5) (fe_op op_mulD ok_mul fe_int (fe_var 6))) (fa_cons (fe_op op_addD ok_add (fe_op op_mulD ok_mul fe_int (fe_var 5)) (fe_var 6)) fa_nil))))) sc__law_keeps.nd (Or.inl rfl)) (fss_one (fs_ret (fe_cmp (op_neDD (hu64 hr)) ok_ne (fe_list (fl_lc (fi_seq (fe_var 7)) (blkOk_by (own := [("_law_one", 8)]) (N := N__law_keeps) (sc := defScope s__law_keeps) (by decide +kernel)) rfl (gok_name 8) (fun _ _ _ _ _ => (pg_name (i := 8) sc__law_keeps.nd rfl (by first | exact Or.inl rfl | exact Or.inr rfl) (by first | exact Or.inl rfl | exact Or.inr rfl))) (fun _ _ _ _ _ => (fts_one (ft_w (fw_or (ft_cmp op_gt ok_gt (fe_op op_mulD ok_mul (fe_var 8) (fe_var 3)) fe_int (nomark _)) (fw_or1 (ft_w (fw_and (ft_cmp (op_eqDD (hu64 hr)) ok_eq (fe_var 8) fe_int (nomark _)) (fw_and1 (ft_cmp (op_eqDD (hu64 hr)) ok_eq (fe_var 3) fe_int (nomark _)))))))))) (fun _ _ _ _ _ => (fe_var 8)) sc__law_keeps.nd)) (fe_list (fl_lst fa_nil)) (nomark _))))))))))))))
abbrev s__law_first : Stmt := topS 51
abbrev N__law_first : List Str := ["_law_ties_here", "_law_room_here", "_law_number"]
theorem sc__law_first : FnScope N__law_first ["_law_ties_here", "_law_room_here"] (defScope s__law_first) := ⟨rfl, rfl, rfl, by decide +kernel, rfl, by decide +kernel, by decide +kernel⟩
def m__law_first : Sx := (sSeq (sFor (mRg1 (m1 lenD (mVar 0))) (gNm 2) (sIf (mNot (mTst (mCall F__law_keeps (mCons (m2 ixD (mVar 0) (mVar 2)) (mCons (mVar 1) mNil))))) (sRet (mVar 2)) sNx)) (sRet (mC .none)))
def F__law_first : List Vl → Option Vl := bodyP 3 2 (m__law_first)
theorem ok__law_first (T : Tx K w mg C) (h : Hr K mg "_law_first" s__law_first) (D__law_keeps : Dn Pg w K mg base CX0 1 "_law_keeps" ["_law_tie_here", "_law_room_here"] (spP (pm K ns C) F__law_keeps)) : Dn Pg w K mg base CX0 2 "_law_first" ["_law_ties_here", "_law_room_here"] (spP (pm K ns C) F__law_first) :=
  dn_P (fx := fun _ => 0) h sc__law_first (by decide) (fun _ _ _ _ _ _ us hl => match us, hl with | [_, _], _ => rfl) (fun f cdv A outer s H E hr => 
    (fss_cons (fs_for (fi_rg1 (fe_b1 FL.call_lenD ok_len T.n_len (by decide +kernel) (fe_var 0)) T.n_range) (pg_name (i := 2) sc__law_first.nd rfl (by first | exact Or.inl rfl | exact Or.inr rfl) (by first | exact Or.inl rfl | exact Or.inr rfl)) (gok_name 2) (fss_one (fs_if (ft_not (ft_val (fe_callD D__law_keeps (hr.mono (by decide)) (fa_cons (fe_ix (fe_var 0) (fe_var 2)) (fa_cons (fe_var 1) fa_nil))))) (fss_one (fs_ret (fe_var 2))) fss_nil)) PassesOwn.never) (fss_one (fs_ret fe_non))))
abbrev s__law_spots : Stmt := topS 49
abbrev N__law_spots : List Str := ["_law_marks_here", "_law_found", "_law_place"]
theorem sc__law_spots : FnScope N__law_spots ["_law_marks_here"] (defScope s__law_spots) := ⟨rfl, rfl, rfl, by decide +kernel, rfl, by decide +kernel, by decide +kernel⟩
def m__law_spots : Sx := (sSeq (sSet 1 (mList (mLst mNil))) (sSeq (sFor (mRg1 (m2 addD (m2 mulD (mC (.int 2)) (m1 lenD (mVar 0))) (mC (.int 1)))) (gNm 2) (sSet 1 (m2 addD (mVar 1) (m2 ixD (mList (mLst (mCons (mList (mLst (mCons (mTup (mCons (mVar 2) (mCons (m2 subD (mC (.int 0)) (mC (.int 1))) mNil))) (mCons (mTup (mCons (mVar 2) (mCons (mC (.int 0)) mNil))) (mCons (mTup (mCons (mVar 2) (mCons (mC (.int 1)) mNil))) mNil))))) (mCons (mList (mLst (mCons (mTup (mCons (mVar 2) (mCons (mC (.int 0)) mNil))) mNil))) mNil)))) (m2 modD (mVar 2) (mC (.int 2))))))) (sRet (mVar 1))))
def F__law_spots : List Vl → Option Vl := bodyP 3 1 (m__law_spots)
theorem ok__law_spots (T : Tx K w mg C) (h : Hr K mg "_law_spots" s__law_spots) : Dn Pg w K mg base CX0 1 "_law_spots" ["_law_marks_here"] (spP (pm K ns C) F__law_spots) :=
  dn_P (fx := fun _ => 0) h sc__law_spots (by decide) (fun _ _ _ _ _ _ us hl => match us, hl with | [_], _ => rfl) (fun f cdv A outer s H E hr => 
    (fss_cons (fs_set (i := 1) rfl (by first | exact Or.inl rfl | exact Or.inr rfl) (fe_list (fl_lst fa_nil)) sc__law_spots.nd (Or.inl rfl)) (fss_cons (fs_for (fi_rg1 (fe_op op_addD ok_add (fe_op op_mulD ok_mul fe_int (fe_b1 FL.call_lenD ok_len T.n_len (by decide +kernel) (fe_var 0))) fe_int) T.n_range) (pg_name (i := 2) sc__law_spots.nd rfl (by first | exact Or.inl rfl | exact Or.inr rfl) (by first | exact Or.inl rfl | exact Or.inr rfl)) (gok_name 2) (fss_one (fs_set (i := 1) rfl (by first | exact Or.inl rfl | exact Or.inr rfl) (fe_op op_addD ok_add (fe_var 1) (fe_ix (fe_list (fl_lst (fa_cons (fe_list (fl_lst (fa_cons (fe_tup (fa_cons (fe_var 2) (fa_cons (fe_op op_sub ok_sub fe_int fe_int) fa_nil))) (fa_cons (fe_tup (fa_cons (fe_var 2) (fa_cons fe_int fa_nil))) (fa_cons (fe_tup (fa_cons (fe_var 2) (fa_cons fe_int fa_nil))) fa_nil))))) (fa_cons (fe_list (fl_lst (fa_cons (fe_tup (fa_cons (fe_var 2) (fa_cons fe_int fa_nil))) fa_nil))) fa_nil)))) (fe_op op_mod ok_mod (fe_var 2) fe_int))) sc__law_spots.nd (Or.inl rfl))) PassesOwn.never) (fss_one (fs_ret (fe_var 1))))))
abbrev s__law_rooms : Stmt := topS 52
abbrev N__law_rooms : List Str := ["_law_things_here", "_law_ties_here", "_law_found", "_law_name", "_law_marks_here", "_law_longer", "_law_one", "_law_spot", "_law_room_here"]
theorem sc__law_rooms : FnScope N__law_rooms ["_law_things_here", "_law_ties_here"] (defScope s__law_rooms) := ⟨rfl, rfl, rfl, by decide +kernel, rfl, by decide +kernel, by decide +kernel⟩
def m__law_rooms : Sx := (sSeq (sSet 2 (mList (mLst (mCons (mTup mNil) mNil)))) (sSeq (sFor (mSeq (mVar 0)) (gTp 2 (gsCons (gNm 3) (gsCons (gNm 4) gsNil))) (sSeq (sOwn 5 (mLst mNil)) (sSeq (sFor (mSeq (mVar 2)) (gNm 6) (sExt 5 (mList (mLc [7] (mSeq (mCall F__law_spots (mCons (mVar 4) mNil))) (gNm 7) mYes (m2 addD (mVar 6) (mTup (mCons (mVar 7) mNil))))))) (sFrz 5 (sSet 2 (mVar 5)))))) (sRet (mList (mLc [8] (mSeq (mVar 2)) (gNm 8) (mTst (m2 isND (mCall F__law_first (mCons (mVar 1) (mCons (mVar 8) mNil))) (mC .none))) (mVar 8))))))
def F__law_rooms : List Vl → Option Vl := bodyP 9 2 (m__law_rooms)
theorem ok__law_rooms (T : Tx K w mg C) (h : Hr K mg "_law_rooms" s__law_rooms) (D__law_first : Dn Pg w K mg base CX0 2 "_law_first" ["_law_ties_here", "_law_room_here"] (spP (pm K ns C) F__law_first)) (D__law_spots : Dn Pg w K mg base CX0 1 "_law_spots" ["_law_marks_here"] (spP (pm K ns C) F__law_spots)) : Dn Pg w K mg base CX0 3 "_law_rooms" ["_law_things_here", "_law_ties_here"] (spP (pm K ns C) F__law_rooms) :=
  dn_P (fx := fun _ => 0) h sc__law_rooms (by decide) (fun _ _ _ _ _ _ us hl => match us, hl with | [_, _], _ => rfl) (fun f cdv A outer s H E hr => 
    (fss_cons (fs_set (i := 2) rfl (by first | exact Or.inl rfl | exact Or.inr rfl) (fe_list (fl_lst (fa_cons (fe_tup fa_nil) fa_nil))) sc__law_rooms.nd (Or.inl rfl)) (fss_cons (fs_for (fi_seq (fe_var 0)) (pg_tup rfl (pgs_cons (pg_name (i := 3) sc__law_rooms.nd rfl (by first | exact Or.inl rfl | exact Or.inr rfl) (by first | exact Or.inl rfl | exact Or.inr rfl)) (pgs_cons (pg_name (i := 4) sc__law_rooms.nd rfl (by first | exact Or.inl rfl | exact Or.inr rfl) (by first | exact Or.inl rfl | exact Or.inr rfl)) pgs_nil))) (gok_tup 2 (gsok_cons (gok_name 3) (gsok_cons (gok_name 4) gsok_nil))) (fss_cons (fs_own (i := 5) rfl (by first | exact Or.inl rfl | exact Or.inr rfl) (fl_lst fa_nil) sc__law_rooms.nd (Or.inl rfl)) (fss_cons (fs_for (fi_seq (fe_var 2)) (pg_name (i := 6) sc__law_rooms.nd rfl (by first | exact Or.inl rfl | exact Or.inr rfl) (by first | exact Or.inl rfl | exact Or.inr rfl)) (gok_name 6) (fss_one (fs_extend (pv 5) (fe_list (fl_lc (fi_seq (fe_callD D__law_spots (hr.mono (by decide)) (fa_cons (fe_var 4) fa_nil))) (blkOk_by (own := [("_law_spot", 7)]) (N := N__law_rooms) (sc := defScope s__law_rooms) (by decide +kernel)) rfl (gok_name 7) (fun _ _ _ _ _ => (pg_name (i := 7) sc__law_rooms.nd rfl (by first | exact Or.inl rfl | exact Or.inr rfl) (by first | exact Or.inl rfl | exact Or.inr rfl))) (fun _ _ _ _ _ => fts_nil) (fun _ _ _ _ _ => (fe_op op_addD ok_add (fe_var 6) (fe_tup (fa_cons (fe_var 7) fa_nil)))) sc__law_rooms.nd)))) PassesOwn.never) (fss_one (fs_frz 5 (fs_set (i := 2) rfl (by first | exact Or.inl rfl | exact Or.inr rfl) (fe_var 5) sc__law_rooms.nd (Or.inl rfl)))))) PassesOwn.never) (fss_one (fs_ret (fe_list (fl_lc (fi_seq (fe_var 2)) (blkOk_by (own := [("_law_room_here", 8)]) (N := N__law_rooms) (sc := defScope s__law_rooms) (by decide +kernel)) rfl (gok_name 8) (fun _ _ _ _ _ => (pg_name (i := 8) sc__law_rooms.nd rfl (by first | exact Or.inl rfl | exact Or.inr rfl) (by first | exact Or.inl rfl | exact Or.inr rfl))) (fun _ _ _ _ _ => (fts_one (ft_cmp op_isN ok_isN (fe_callD D__law_first (hr.mono (by decide)) (fa_cons (fe_var 1) (fa_cons (fe_var 8) fa_nil))) fe_non (nomark _)))) (fun _ _ _ _ _ => (fe_var 8)) sc__law_rooms.nd)))))))
abbrev s__law_any : Stmt := topS 53
abbrev N__law_any : List Str := ["_law_row", "_law_things_here", "_law_found", "_law_name", "_law_marks_here", "_law_some"]
theorem sc__law_any : FnScope N__law_any ["_law_row", "_law_things_here"] (defScope s__law_any) := ⟨rfl, rfl, rfl, by decide +kernel, rfl, by decide +kernel, by decide +kernel⟩
def m__law_any (ns : List Int) : Sx := (sSeq (sOwn 2 (mLst mNil)) (sSeq (sFor (mSeq (mVar 1)) (gTp 2 (gsCons (gNm 3) (gsCons (gNm 4) gsNil))) (sSeq (sSet 5 (mCall F__law_spots (mCons (mVar 4) mNil))) (sApp 2 (m2 ixD (mVar 5) (mCallR 0 (F__law_taken ns) (mCons (m1 lenD (mVar 5)) mNil)))))) (sFrz 2 (sRet (m1 tupleD (mVar 2))))))
def F__law_any (ns : List Int) : List Vl → Ro → Option (Vl × Ro) := bodyR 6 1 (m__law_any ns)
theorem ok__law_any (T : Tx K w mg C) (h : Hr K mg "_law_any" s__law_any) (D__law_taken : Dn Pg w K mg base CX0 1 "_law_taken" ["_law_row", "_law_many"] (spR (pm K ns C) (F__law_taken ns))) (D__law_spots : Dn Pg w K mg base CX0 1 "_law_spots" ["_law_marks_here"] (spP (pm K ns C) F__law_spots)) : Dn Pg w K mg base CX0 2 "_law_any" ["_law_row", "_law_things_here"] (spR (pm K ns C) (F__law_any ns)) :=
  dn_R (fx := fun _ => 0) h sc__law_any (by decide) (by decide) (fun _ _ _ _ _ _ us hl => match us, hl with | [_, _], _ => rfl) (fun f cdv A outer s H E hr => 
    (fss_cons (fs_own (i := 2) rfl (by first | exact Or.inl rfl | exact Or.inr rfl) (fl_lst fa_nil) sc__law_any.nd (Or.inl rfl)) (fss_cons (fs_for (fi_seq (fe_var 1)) (pg_tup rfl (pgs_cons (pg_name (i := 3) sc__law_any.nd rfl (by first | exact Or.inl rfl | exact Or.inr rfl) (by first | exact Or.inl rfl | exact Or.inr rfl)) (pgs_cons (pg_name (i := 4) sc__law_any.nd rfl (by first | exact Or.inl rfl | exact Or.inr rfl) (by first | exact Or.inl rfl | exact Or.inr rfl)) pgs_nil))) (gok_tup 2 (gsok_cons (gok_name 3) (gsok_cons (gok_name 4) gsok_nil))) (fss_cons (fs_set (i := 5) rfl (by first | exact Or.inl rfl | exact Or.inr rfl) (fe_callD D__law_spots (hr.mono (by decide)) (fa_cons (fe_var 4) fa_nil)) sc__law_any.nd (Or.inl rfl)) (fss_one (fs_append (pv 2) (fe_ix (fe_var 5) (fe_callRD D__law_taken (hr.mono (by decide)) (pv 0) (fa_cons (fe_b1 FL.call_lenD ok_len T.n_len (by decide +kernel) (fe_var 5)) fa_nil)))))) PassesOwn.never) (fss_one (fs_frz 2 (fs_ret (fe_t1 FL.call_tupD ok_tuple T.n_tuple (by decide +kernel) (fe_var 2))))))))
abbrev s__law_room : Stmt := topS 54
abbrev N__law_room : List Str := ["_law_row", "_law_things_here", "_law_ties_here", "_law_every"]
theorem sc__law_room : FnScope N__law_room ["_law_row", "_law_things_here", "_law_ties_here"] (defScope s__law_room) := ⟨rfl, rfl, rfl, by decide +kernel, rfl, by decide +kernel, by decide +kernel⟩
def m__law_room (ns : List Int) : Sx := (sSeq (sSet 3 (mCall F__law_rooms (mCons (mVar 1) (mCons (mVar 2) mNil)))) (sSeq (sIf (mAnd (mTst (m2 neD (mVar 3) (mList (mLst mNil)))) (mTst (m2 gtD (mCallR 0 (F__law_taken ns) (mCons (mC (.int 4)) mNil)) (mC (.int 0))))) (sRet (m2 ixD (mVar 3) (mCallR 0 (F__law_taken ns) (mCons (m1 lenD (mVar 3)) mNil)))) sNx) (sRet (mCallR 0 (F__law_any ns) (mCons (mVar 1) mNil)))))
def F__law_room (ns : List Int) : List Vl → Ro → Option (Vl × Ro) := bodyR 4 2 (m__law_room ns)
theorem ok__law_room (T : Tx K w mg C) (h : Hr K mg "_law_room" s__law_room) (D__law_any : Dn Pg w K mg base CX0 2 "_law_any" ["_law_row", "_law_things_here"] (spR (pm K ns C) (F__law_any ns))) (D__law_taken : Dn Pg w K mg base CX0 1 "_law_taken" ["_law_row", "_law_many"] (spR (pm K ns C) (F__law_taken ns))) (D__law_rooms : Dn Pg w K mg base CX0 3 "_law_rooms" ["_law_things_here", "_law_ties_here"] (spP (pm K ns C) F__law_rooms)) : Dn Pg w K mg base CX0 4 "_law_room" ["_law_row", "_law_things_here", "_law_ties_here"] (spR (pm K ns C) (F__law_room ns)) :=
  dn_R (fx := fun _ => 0) h sc__law_room (by decide) (by decide) (fun _ _ _ _ _ _ us hl => match us, hl with | [_, _, _], _ => rfl) (fun f cdv A outer s H E hr => 
    (fss_cons (fs_set (i := 3) rfl (by first | exact Or.inl rfl | exact Or.inr rfl) (fe_callD D__law_rooms (hr.mono (by decide)) (fa_cons (fe_var 1) (fa_cons (fe_var 2) fa_nil))) sc__law_room.nd (Or.inl rfl)) (fss_cons (fs_if (ft_w (fw_and (ft_cmp (op_neDD (hu64 hr)) ok_ne (fe_var 3) (fe_list (fl_lst fa_nil)) (nomark _)) (fw_and1 (ft_cmp op_gt ok_gt (fe_callRD D__law_taken (hr.mono (by decide)) (pv 0) (fa_cons fe_int fa_nil)) fe_int (nomark _))))) (fss_one (fs_ret (fe_ix (fe_var 3) (fe_callRD D__law_taken (hr.mono (by decide)) (pv 0) (fa_cons (fe_b1 FL.call_lenD ok_len T.n_len (by decide +kernel) (fe_var 3)) fa_nil))))) fss_nil) (fss_one (fs_ret (fe_callRD D__law_any (hr.mono (by decide)) (pv 0) (fa_cons (fe_var 1) fa_nil)))))))
abbrev s_is_mark : Stmt := topS 11
abbrev N_is_mark : List Str := ["place"]
theorem sc_is_mark : FnScope N_is_mark ["place"] (defScope s_is_mark) := ⟨rfl, rfl, rfl, by decide +kernel, rfl, by decide +kernel, by decide +kernel⟩
def m_is_mark : Sx := (sRet (m2 eqD (m2 modD (mVar 0) (mC (.int 2))) (mC (.int 1))))
def F_is_mark : List Vl → Option Vl := bodyP 1 1 (m_is_mark)
theorem ok_is_mark (T : Tx K w mg C) (h : Hr K mg "is_mark" s_is_mark) : Dn Pg w K mg base CX0 1 "is_mark" ["place"] (spP (pm K ns C) F_is_mark) :=
  dn_P (fx := fun _ => 0) h sc_is_mark (by decide) (fun _ _ _ _ _ _ us hl => match us, hl with | [_], _ => rfl) (fun f cdv A outer s H E hr => 
    (fss_one (fs_ret (fe_cmp (op_eqDD (hu64 hr)) ok_eq (fe_op op_mod ok_mod (fe_var 0) fe_int) fe_int (nomark _)))))
abbrev s_states : Stmt := topS 10
abbrev N_states : List Str := ["marks", "found", "place", "trend"]
theorem sc_states : FnScope N_states ["marks"] (defScope s_states) := ⟨rfl, rfl, rfl, by decide +kernel, rfl, by decide +kernel, by decide +kernel⟩
def m_states : Sx := (sSeq (sOwn 1 (mLst mNil)) (sSeq (sFor (mRg1 (m2 addD (m2 mulD (mC (.int 2)) (m1 lenD (mVar 0))) (mC (.int 1)))) (gNm 2) (sIf (mTst (mCall F_is_mark (mCons (mVar 2) mNil))) (sApp 1 (mTup (mCons (mVar 2) (mCons (mC (.int 0)) mNil)))) (sExt 1 (mList (mLc [3] (mSeq (mC (.tuple [(.int (-1)), (.int 0), (.int 1)]))) (gNm 3) mYes (mTup (mCons (mVar 2) (mCons (mVar 3) mNil)))))))) (sRetO 1)))
def F_states : List Vl → Option Vl := bodyP 4 1 (m_states)
theorem ok_states (T : Tx K w mg C) (h : Hr K mg "states" s_states) (D_is_mark : Dn Pg w K mg base CX0 1 "is_mark" ["place"] (spP (pm K ns C) F_is_mark)) : Dn Pg w K mg base CX0 2 "states" ["marks"] (spP (pm K ns C) F_states) :=
  dn_P (fx := fun _ => 0) h sc_states (by decide) (fun _ _ _ _ _ _ us hl => match us, hl with | [_], _ => rfl) (fun f cdv A outer s H E hr => 
    (fss_cons (fs_own (i := 1) rfl (by first | exact Or.inl rfl | exact Or.inr rfl) (fl_lst fa_nil) sc_states.nd (Or.inl rfl)) (fss_cons (fs_for (fi_rg1 (fe_op op_addD ok_add (fe_op op_mulD ok_mul fe_int (fe_b1 FL.call_lenD ok_len T.n_len (by decide +kernel) (fe_var 0))) fe_int) T.n_range) (pg_name (i := 2) sc_states.nd rfl (by first | exact Or.inl rfl | exact Or.inr rfl) (by first | exact Or.inl rfl | exact Or.inr rfl)) (gok_name 2) (fss_one (fs_if (ft_val (fe_callD D_is_mark (hr.mono (by decide)) (fa_cons (fe_var 2) fa_nil))) (fss_one (fs_append (pv 1) (fe_tup (fa_cons (fe_var 2) (fa_cons fe_int fa_nil))))) (fss_one (fs_extend (pv 1) (fe_list (fl_lc (fi_seq (fe_globT T.g_TRENDS)) (blkOk_by (own := [("trend", 3)]) (N := N_states) (sc := defScope s_states) (by decide +kernel)) rfl (gok_name 3) (fun _ _ _ _ _ => (pg_name (i := 3) sc_states.nd rfl (by first | exact Or.inl rfl | exact Or.inr rfl) (by first | exact Or.inl rfl | exact Or.inr rfl))) (fun _ _ _ _ _ => fts_nil) (fun _ _ _ _ _ => (fe_tup (fa_cons (fe_var 2) (fa_cons (fe_var 3) fa_nil)))) sc_states.nd)))))) PassesOwn.never) (fss_one (fs_retO (pv 1))))))
abbrev s_check_room : Stmt := topS 7
abbrev N_check_room : List Str := ["house", "room", "things", "name", "marks", "state"]
theorem sc_check_room : FnScope N_check_room ["house", "room"] (defScope s_check_room) := ⟨rfl, rfl, rfl, by decide +kernel, rfl, by decide +kernel, by decide +kernel⟩
def m_check_room : Sx := (sSeq (sSet 2 (mList (mHse F_House_things (mVar 0)))) (sSeq (sIf (mTst (m2 neD (m1 lenD (mVar 1)) (m1 lenD (mVar 2)))) (sRaise 1 (mJs [(mC (.str (PySem.Str.ofString "no room: "))), (mFmt (m1 lenD (mVar 1))), (mC (.str (PySem.Str.ofString " of "))), (mFmt (m1 lenD (mVar 2))), (mC (.str (PySem.Str.ofString " things")))] PySem.Str.empty)) sNx) (sFor (mZ3 (mVar 2) (mVar 1)) (gTp 2 (gsCons (gTp 2 (gsCons (gNm 3) (gsCons (gNm 4) gsNil))) (gsCons (gNm 5) gsNil))) (sIf (mTst (m2 ninD (mVar 5) (mCall F_states (mCons (mVar 4) mNil)))) (sRaise 1 (mJs [(mC (.str (PySem.Str.ofString "no room: "))), (mFmt (mVar 3)), (mC (.str (PySem.Str.ofString " has no such place and trend")))] PySem.Str.empty)) sNx))))
def F_check_room : List Vl → Option Res := bodyX 6 2 (m_check_room)
theorem ok_check_room (T : Tx K w mg C) (h : Hr K mg "check_room" s_check_room) (TX : Tex K mg fx CT) (D_states : Dn Pg w K mg base CX0 2 "states" ["marks"] (spP (pm K ns C) F_states)) (D_House_things : Dm Pg w K mg base 1 C "things" (spL (pm K ns C) F_House_things)) : Dn Pg w K mg base (L2.CX Pg w) 3 "check_room" ["house", "room"] (spX (pm K ns C) fx F_check_room) :=
  dn_X h sc_check_room (by decide) (fun _ _ _ _ _ _ us hl => match us, hl with | [_, _], _ => rfl) (fun f cdv A outer s H E hr => have tk := takes_of rfl rfl rfl rfl; 
    (fss_cons (fs_set (i := 2) rfl (by first | exact Or.inl rfl | exact Or.inr rfl) (fe_list (fl_hse T.cH D_House_things (hr.mono (by decide)) (fe_var 0))) sc_check_room.nd (Or.inl rfl)) (fss_cons (fs_if (ft_cmp (op_neDD (hu64 hr)) ok_ne (fe_b1 FL.call_lenD ok_len T.n_len (by decide +kernel) (fe_var 1)) (fe_b1 FL.call_lenD ok_len T.n_len (by decide +kernel) (fe_var 2)) (nomark _)) (fss_one (fs_raise (c := 1) TX.x1 tk (fe_joined (FJ.cons fe_str (FJ.cons (fe_fmt (fe_b1 FL.call_lenD ok_len T.n_len (by decide +kernel) (fe_var 1))) (FJ.cons fe_str (FJ.cons (fe_fmt (fe_b1 FL.call_lenD ok_len T.n_len (by decide +kernel) (fe_var 2))) (FJ.cons fe_str FJ.nil)))))))) fss_nil) (fss_one (fs_for (fi_zip3 (fe_var 2) (fe_var 1) T.n_zip) (pg_tup rfl (pgs_cons (pg_tup rfl (pgs_cons (pg_name (i := 3) sc_check_room.nd rfl (by first | exact Or.inl rfl | exact Or.inr rfl) (by first | exact Or.inl rfl | exact Or.inr rfl)) (pgs_cons (pg_name (i := 4) sc_check_room.nd rfl (by first | exact Or.inl rfl | exact Or.inr rfl) (by first | exact Or.inl rfl | exact Or.inr rfl)) pgs_nil))) (pgs_cons (pg_name (i := 5) sc_check_room.nd rfl (by first | exact Or.inl rfl | exact Or.inr rfl) (by first | exact Or.inl rfl | exact Or.inr rfl)) pgs_nil))) (gok_tup 2 (gsok_cons (gok_tup 2 (gsok_cons (gok_name 3) (gsok_cons (gok_name 4) gsok_nil))) (gsok_cons (gok_name 5) gsok_nil))) (fss_one (fs_if (ft_cmp (op_ninDD (hu65 hr)) ok_nin (fe_var 5) (fe_callD D_states (hr.mono (by decide)) (fa_cons (fe_var 4) fa_nil)) (by with_unfolding_all rfl)) (fss_one (fs_raise (c := 1) TX.x1 tk (fe_joined (FJ.cons fe_str (FJ.cons (fe_fmt (fe_var 3)) (FJ.cons fe_str FJ.nil)))))) fss_nil)) (passes_own rfl))))))
abbrev s_ways_from_mark : Stmt := topS 20
abbrev N_ways_from_mark : List Str := ["place"]
theorem sc_ways_from_mark : FnScope N_ways_from_mark ["place"] (defScope s_ways_from_mark) := ⟨rfl, rfl, rfl, by decide +kernel, rfl, by decide +kernel, by decide +kernel⟩
def m_ways_from_mark : Sx := (sRet (mList (mLst (mCons (mTup (mCons (m2 subD (mVar 0) (mC (.int 1))) (mCons (m1 negD (mC (.int 1))) mNil))) (mCons (mTup (mCons (mVar 0) (mCons (mC (.int 0)) mNil))) (mCons (mTup (mCons (m2 addD (mVar 0) (mC (.int 1))) (mCons (mC (.int 1)) mNil))) mNil))))))
def F_ways_from_mark : List Vl → Option Vl := bodyP 1 1 (m_ways_from_mark)
theorem ok_ways_from_mark (T : Tx K w mg C) (h : Hr K mg "ways_from_mark" s_ways_from_mark) : Dn Pg w K mg base CX0 1 "ways_from_mark" ["place"] (spP (pm K ns C) F_ways_from_mark) :=
  dn_P (fx := fun _ => 0) h sc_ways_from_mark (by decide) (fun _ _ _ _ _ _ us hl => match us, hl with | [_], _ => rfl) (fun f cdv A outer s H E hr => 
    (fss_one (fs_ret (fe_list (fl_lst (fa_cons (fe_tup (fa_cons (fe_op op_sub ok_sub (fe_var 0) fe_int) (fa_cons (fe_un un_neg ok_neg fe_int) fa_nil))) (fa_cons (fe_tup (fa_cons (fe_var 0) (fa_cons fe_int fa_nil))) (fa_cons (fe_tup (fa_cons (fe_op op_addD ok_add (fe_var 0) fe_int) (fa_cons fe_int fa_nil))) fa_nil))))))))
abbrev s_ways_on : Stmt := topS 19
abbrev N_ways_on : List Str := ["marks", "state", "place", "trend", "still_between", "mark", "turned"]
theorem sc_ways_on : FnScope N_ways_on ["marks", "state"] (defScope s_ways_on) := ⟨rfl, rfl, rfl, by decide +kernel, rfl, by decide +kernel, by decide +kernel⟩
def m_ways_on : Sx := (sSeq (sTgt (gTp 2 (gsCons (gNm 2) (gsCons (gNm 3) gsNil))) (mVar 1)) (sSeq (sIf (mTst (mCall F_is_mark (mCons (mVar 2) mNil))) (sRet (mCall F_ways_from_mark (mCons (mVar 2) mNil))) sNx) (sSeq (sSet 4 (mList (mLc [6] (mSeq (mC (.tuple [(.int (-1)), (.int 0), (.int 1)]))) (gNm 6) mYes (mTup (mCons (mVar 2) (mCons (mVar 6) mNil)))))) (sSeq (sSet 5 (m2 addD (mVar 2) (mVar 3))) (sSeq (sIf (mAnd (mTst (mCall F_is_mark (mCons (mVar 5) mNil))) (mTst (mChain ltD ltD (mC (.int 0)) (mVar 5) (m2 mulD (mC (.int 2)) (m1 lenD (mVar 0)))))) (sRet (m1 sortSetD (m2 addD (mVar 4) (mCall F_ways_from_mark (mCons (mVar 5) mNil))))) sNx) (sRet (mVar 4)))))))
def F_ways_on : List Vl → Option Vl := bodyP 7 2 (m_ways_on)
theorem ok_ways_on (T : Tx K w mg C) (h : Hr K mg "ways_on" s_ways_on) (D_is_mark : Dn Pg w K mg base CX0 1 "is_mark" ["place"] (spP (pm K ns C) F_is_mark)) (D_ways_from_mark : Dn Pg w K mg base CX0 1 "ways_from_mark" ["place"] (spP (pm K ns C) F_ways_from_mark)) : Dn Pg w K mg base CX0 2 "ways_on" ["marks", "state"] (spP (pm K ns C) F_ways_on) :=
  dn_P (fx := fun _ => 0) h sc_ways_on (by decide) (fun _ _ _ _ _ _ us hl => match us, hl with | [_, _], _ => rfl) (fun f cdv A outer s H E hr => 
    (fss_cons (fs_tgt (fe_var 1) (pg_tup rfl (pgs_cons (pg_name (i := 2) sc_ways_on.nd rfl (by first | exact Or.inl rfl | exact Or.inr rfl) (by first | exact Or.inl rfl | exact Or.inr rfl)) (pgs_cons (pg_name (i := 3) sc_ways_on.nd rfl (by first | exact Or.inl rfl | exact Or.inr rfl) (by first | exact Or.inl rfl | exact Or.inr rfl)) pgs_nil))) (gok_tup 2 (gsok_cons (gok_name 2) (gsok_cons (gok_name 3) gsok_nil)))) (fss_cons (fs_if (ft_val (fe_callD D_is_mark (hr.mono (by decide)) (fa_cons (fe_var 2) fa_nil))) (fss_one (fs_ret (fe_callD D_ways_from_mark (hr.mono (by decide)) (fa_cons (fe_var 2) fa_nil)))) fss_nil) (fss_cons (PS.imp (st_lc (i := 4) rfl rfl (sw_true rfl rfl rfl (by decide +kernel)) (fi_seq (fe_globT T.g_TRENDS)) (blkOk_by (own := [("turned", 6)]) (N := N_ways_on) (sc := defScope s_ways_on) (by decide +kernel)) rfl (gok_name 6) (fun _ _ _ _ _ => (pg_name (i := 6) sc_ways_on.nd rfl (by first | exact Or.inl rfl | exact Or.inr rfl) (by first | exact Or.inl rfl | exact Or.inr rfl))) (fun _ _ _ _ _ => fts_nil) (fun _ _ _ _ _ => (fe_tup (fa_cons (fe_var 2) (fa_cons (fe_var 6) fa_nil)))) sc_ways_on.nd) (tS_set fun _ _ _ h => tE_list h)) (fss_cons (fs_set (i := 5) rfl (by first | exact Or.inl rfl | exact Or.inr rfl) (fe_op op_addD ok_add (fe_var 2) (fe_var 3)) sc_ways_on.nd (Or.inl rfl)) (fss_cons (fs_if (ft_w (fw_and (ft_val (fe_callD D_is_mark (hr.mono (by decide)) (fa_cons (fe_var 5) fa_nil))) (fw_and1 (ft_chain op_lt ok_lt op_lt ok_lt fe_int (fe_var 5) (fe_op op_mulD ok_mul fe_int (fe_b1 FL.call_lenD ok_len T.n_len (by decide +kernel) (fe_var 0))))))) (fss_one (fs_ret (fe_sortSet (hu64 hr) (fe_op op_addD ok_add (fe_var 4) (fe_callD D_ways_from_mark (hr.mono (by decide)) (fa_cons (fe_var 5) fa_nil))) T.n_sorted T.n_set))) fss_nil) (fss_one (fs_ret (fe_var 4)))))))))
abbrev s_one_of_each : Stmt := topS 9
abbrev N_one_of_each : List Str := ["lists", "found", "choices", "room", "state"]
theorem sc_one_of_each : FnScope N_one_of_each ["lists"] (defScope s_one_of_each) := ⟨rfl, rfl, rfl, by decide +kernel, rfl, by decide +kernel, by decide +kernel⟩
def m_one_of_each : Sx := (sSeq (sSet 1 (mList (mLst (mCons (mTup mNil) mNil)))) (sSeq (sFor (mSeq (mVar 0)) (gNm 2) (sSet 1 (mList (mLc2 [3, 4] (mSeq (mVar 1)) (gNm 3) (mSeq (mVar 2)) [4] (gNm 4) mYes (m2 addD (mVar 3) (mTup (mCons (mVar 4) mNil))))))) (sRet (mVar 1))))
def F_one_of_each : List Vl → Option Vl := bodyP 5 1 (m_one_of_each)
theorem ok_one_of_each (T : Tx K w mg C) (h : Hr K mg "one_of_each" s_one_of_each) : Dn Pg w K mg base CX0 1 "one_of_each" ["lists"] (spP (pm K ns C) F_one_of_each) :=
  dn_P (fx := fun _ => 0) h sc_one_of_each (by decide) (fun _ _ _ _ _ _ us hl => match us, hl with | [_], _ => rfl) (fun f cdv A outer s H E hr => 
    (fss_cons (fs_set (i := 1) rfl (by first | exact Or.inl rfl | exact Or.inr rfl) (fe_list (fl_lst (fa_cons (fe_tup fa_nil) fa_nil))) sc_one_of_each.nd (Or.inl rfl)) (fss_cons (fs_for (fi_seq (fe_var 0)) (pg_name (i := 2) sc_one_of_each.nd rfl (by first | exact Or.inl rfl | exact Or.inr rfl) (by first | exact Or.inl rfl | exact Or.inr rfl)) (gok_name 2) (fss_one (PS.imp (st_lc2 (i := 1) rfl rfl (sw_true rfl rfl rfl (by decide +kernel)) (fi_seq (fe_var 1)) (blkOk_by (own := [("room", 3), ("state", 4)]) (N := N_one_of_each) (sc := defScope s_one_of_each) (by decide +kernel)) rfl (by decide) (gok_wide (gok_name 3) (by decide)) (gok_name 4) (fun _ _ _ _ _ => (pg_name (i := 3) sc_one_of_each.nd rfl (by first | exact Or.inl rfl | exact Or.inr rfl) (by first | exact Or.inl rfl | exact Or.inr rfl))) (fun _ _ _ _ _ => (fi_seq (fe_var 2))) (fun _ _ _ _ _ => (pg_name (i := 4) sc_one_of_each.nd rfl (by first | exact Or.inl rfl | exact Or.inr rfl) (by first | exact Or.inl rfl | exact Or.inr rfl))) (fun _ _ _ _ _ => fts_nil) (fun _ _ _ _ _ => (fe_op op_addD ok_add (fe_var 3) (fe_tup (fa_cons (fe_var 4) fa_nil)))) sc_one_of_each.nd) (tS_set fun _ _ _ h => tE_list h))) PassesOwn.never) (fss_one (fs_ret (fe_var 1))))))
abbrev s_sign : Stmt := topS 16
abbrev N_sign : List Str := ["number"]
theorem sc_sign : FnScope N_sign ["number"] (defScope s_sign) := ⟨rfl, rfl, rfl, by decide +kernel, rfl, by decide +kernel, by decide +kernel⟩
def m_sign : Sx := (sSeq (sIf (mTst (m2 gtD (mVar 0) (mC (.int 0)))) (sRet (mC (.int 1))) sNx) (sSeq (sIf (mTst (m2 ltD (mVar 0) (mC (.int 0)))) (sRet (m1 negD (mC (.int 1)))) sNx) (sRet (mC (.int 0)))))
def F_sign : List Vl → Option Vl := bodyP 1 1 (m_sign)
theorem ok_sign (T : Tx K w mg C) (h : Hr K mg "sign" s_sign) : Dn Pg w K mg base CX0 1 "sign" ["number"] (spP (pm K ns C) F_sign) :=
  dn_P (fx := fun _ => 0) h sc_sign (by decide) (fun _ _ _ _ _ _ us hl => match us, hl with | [_], _ => rfl) (fun f cdv A outer s H E hr => 
    (fss_cons (fs_if (ft_cmp op_gt ok_gt (fe_var 0) fe_int (nomark _)) (fss_one (fs_ret fe_int)) fss_nil) (fss_cons (fs_if (ft_cmp op_lt ok_lt (fe_var 0) fe_int (nomark _)) (fss_one (fs_ret (fe_un un_neg ok_neg fe_int))) fss_nil) (fss_one (fs_ret fe_int)))))
abbrev s_may_be_sum : Stmt := topS 15
abbrev N_may_be_sum : List Str := ["trend", "second", "third"]
theorem sc_may_be_sum : FnScope N_may_be_sum ["trend", "second", "third"] (defScope s_may_be_sum) := ⟨rfl, rfl, rfl, by decide +kernel, rfl, by decide +kernel, by decide +kernel⟩
def m_may_be_sum : Sx := (sSeq (sIf (mTst (m2 eqD (m2 mulD (mVar 1) (mVar 2)) (m1 negD (mC (.int 1))))) (sRet (mC (.bool true))) sNx) (sRet (m2 eqD (mVar 0) (mCall F_sign (mCons (m2 addD (mVar 1) (mVar 2)) mNil)))))
def F_may_be_sum : List Vl → Option Vl := bodyP 3 3 (m_may_be_sum)
theorem ok_may_be_sum (T : Tx K w mg C) (h : Hr K mg "may_be_sum" s_may_be_sum) (D_sign : Dn Pg w K mg base CX0 1 "sign" ["number"] (spP (pm K ns C) F_sign)) : Dn Pg w K mg base CX0 2 "may_be_sum" ["trend", "second", "third"] (spP (pm K ns C) F_may_be_sum) :=
  dn_P (fx := fun _ => 0) h sc_may_be_sum (by decide) (fun _ _ _ _ _ _ us hl => match us, hl with | [_, _, _], _ => rfl) (fun f cdv A outer s H E hr => 
    (fss_cons (fs_if (ft_cmp (op_eqDD (hu64 hr)) ok_eq (fe_op op_mulD ok_mul (fe_var 1) (fe_var 2)) (fe_un un_neg ok_neg fe_int) (nomark _)) (fss_one (fs_ret fe_bl)) fss_nil) (fss_one (fs_ret (fe_cmp (op_eqDD (hu64 hr)) ok_eq (fe_var 0) (fe_callD D_sign (hr.mono (by decide)) (fa_cons (fe_op op_addD ok_add (fe_var 1) (fe_var 2)) fa_nil)) (nomark _))))))
abbrev s_mark_place : Stmt := topS 12
abbrev N_mark_place : List Str := ["number"]
theorem sc_mark_place : FnScope N_mark_place ["number"] (defScope s_mark_place) := ⟨rfl, rfl, rfl, by decide +kernel, rfl, by decide +kernel, by decide +kernel⟩
def m_mark_place : Sx := (sRet (m2 addD (m2 mulD (mC (.int 2)) (mVar 0)) (mC (.int 1))))
def F_mark_place : List Vl → Option Vl := bodyP 1 1 (m_mark_place)
theorem ok_mark_place (T : Tx K w mg C) (h : Hr K mg "mark_place" s_mark_place) : Dn Pg w K mg base CX0 1 "mark_place" ["number"] (spP (pm K ns C) F_mark_place) :=
  dn_P (fx := fun _ => 0) h sc_mark_place (by decide) (fun _ _ _ _ _ _ us hl => match us, hl with | [_], _ => rfl) (fun f cdv A outer s H E hr => 
    (fss_one (fs_ret (fe_op op_addD ok_add (fe_op op_mulD ok_mul fe_int (fe_var 0)) fe_int))))
abbrev s_keeps : Stmt := topS 14
abbrev N_keeps : List Str := ["room", "tie", "word", "place", "trend", "second_place", "second", "third"]
theorem sc_keeps : FnScope N_keeps ["room", "tie"] (defScope s_keeps) := ⟨rfl, rfl, rfl, by decide +kernel, rfl, by decide +kernel, by decide +kernel⟩
def m_keeps : Sx := (sSeq (sSet 2 (m2 ixD (mVar 1) (mC (.int 0)))) (sSeq (sTgt (gTp 2 (gsCons (gNm 3) (gsCons (gNm 4) gsNil))) (m2 ixD (mVar 0) (m2 ixD (mVar 1) (mC (.int 1))))) (sSeq (sIf (mTst (m2 eqD (mVar 2) (mC (.str (PySem.Str.ofString "under"))))) (sRet (m2 leD (mVar 3) (mCall F_mark_place (mCons (m2 ixD (mVar 1) (mC (.int 2))) mNil)))) sNx) (sSeq (sIf (mTst (m2 eqD (mVar 2) (mC (.str (PySem.Str.ofString "over"))))) (sRet (m2 geD (mVar 3) (mCall F_mark_place (mCons (m2 ixD (mVar 1) (mC (.int 2))) mNil)))) sNx) (sSeq (sTgt (gTp 2 (gsCons (gNm 5) (gsCons (gNm 6) gsNil))) (m2 ixD (mVar 0) (m2 ixD (mVar 1) (mC (.int 2))))) (sSeq (sIf (mTst (m2 eqD (mVar 2) (mC (.str (PySem.Str.ofString "with"))))) (sRet (m2 eqD (mVar 4) (mVar 6))) sNx) (sSeq (sIf (mTst (m2 eqD (mVar 2) (mC (.str (PySem.Str.ofString "against"))))) (sRet (m2 eqD (mVar 4) (m1 negD (mVar 6)))) sNx) (sSeq (sIf (mTst (m2 eqD (mVar 2) (mC (.str (PySem.Str.ofString "rate"))))) (sRet (m2 eqD (mVar 4) (mCall F_sign (mCons (m2 subD (mVar 5) (mCall F_mark_place (mCons (m2 ixD (mVar 1) (mC (.int 3))) mNil))) mNil)))) sNx) (sSeq (sSet 7 (m2 ixD (m2 ixD (mVar 0) (m2 ixD (mVar 1) (mC (.int 3)))) (mC (.int 1)))) (sSeq (sIf (mTst (m2 eqD (mVar 2) (mC (.str (PySem.Str.ofString "product"))))) (sRet (m2 eqD (mVar 4) (m2 mulD (mVar 6) (mVar 7)))) sNx) (sRet (mCall F_may_be_sum (mCons (mVar 4) (mCons (mVar 6) (mCons (mVar 7) mNil)))))))))))))))
def F_keeps : List Vl → Option Vl := bodyP 8 2 (m_keeps)
theorem ok_keeps (T : Tx K w mg C) (h : Hr K mg "keeps" s_keeps) (D_may_be_sum : Dn Pg w K mg base CX0 2 "may_be_sum" ["trend", "second", "third"] (spP (pm K ns C) F_may_be_sum)) (D_sign : Dn Pg w K mg base CX0 1 "sign" ["number"] (spP (pm K ns C) F_sign)) (D_mark_place : Dn Pg w K mg base CX0 1 "mark_place" ["number"] (spP (pm K ns C) F_mark_place)) : Dn Pg w K mg base CX0 3 "keeps" ["room", "tie"] (spP (pm K ns C) F_keeps) :=
  dn_P (fx := fun _ => 0) h sc_keeps (by decide) (fun _ _ _ _ _ _ us hl => match us, hl with | [_, _], _ => rfl) (fun f cdv A outer s H E hr => 
    (fss_cons (fs_set (i := 2) rfl (by first | exact Or.inl rfl | exact Or.inr rfl) (fe_ix (fe_var 1) fe_int) sc_keeps.nd (Or.inl rfl)) (fss_cons (fs_tgt (fe_ix (fe_var 0) (fe_ix (fe_var 1) fe_int)) (pg_tup rfl (pgs_cons (pg_name (i := 3) sc_keeps.nd rfl (by first | exact Or.inl rfl | exact Or.inr rfl) (by first | exact Or.inl rfl | exact Or.inr rfl)) (pgs_cons (pg_name (i := 4) sc_keeps.nd rfl (by first | exact Or.inl rfl | exact Or.inr rfl) (by first | exact Or.inl rfl | exact Or.inr rfl)) pgs_nil))) (gok_tup 2 (gsok_cons (gok_name 3) (gsok_cons (gok_name 4) gsok_nil)))) (fss_cons (fs_if (ft_cmp (op_eqDD (hu64 hr)) ok_eq (fe_var 2) fe_str (nomark _)) (fss_one (fs_ret (fe_cmp op_le ok_le (fe_var 3) (fe_callD D_mark_place (hr.mono (by decide)) (fa_cons (fe_ix (fe_var 1) fe_int) fa_nil)) (nomark _)))) fss_nil) (fss_cons (fs_if (ft_cmp (op_eqDD (hu64 hr)) ok_eq (fe_var 2) fe_str (nomark _)) (fss_one (fs_ret (fe_cmp op_ge ok_ge (fe_var 3) (fe_callD D_mark_place (hr.mono (by decide)) (fa_cons (fe_ix (fe_var 1) fe_int) fa_nil)) (nomark _)))) fss_nil) (fss_cons (fs_tgt (fe_ix (fe_var 0) (fe_ix (fe_var 1) fe_int)) (pg_tup rfl (pgs_cons (pg_name (i := 5) sc_keeps.nd rfl (by first | exact Or.inl rfl | exact Or.inr rfl) (by first | exact Or.inl rfl | exact Or.inr rfl)) (pgs_cons (pg_name (i := 6) sc_keeps.nd rfl (by first | exact Or.inl rfl | exact Or.inr rfl) (by first | exact Or.inl rfl | exact Or.inr rfl)) pgs_nil))) (gok_tup 2 (gsok_cons (gok_name 5) (gsok_cons (gok_name 6) gsok_nil)))) (fss_cons (fs_if (ft_cmp (op_eqDD (hu64 hr)) ok_eq (fe_var 2) fe_str (nomark _)) (fss_one (fs_ret (fe_cmp (op_eqDD (hu64 hr)) ok_eq (fe_var 4) (fe_var 6) (nomark _)))) fss_nil) (fss_cons (fs_if (ft_cmp (op_eqDD (hu64 hr)) ok_eq (fe_var 2) fe_str (nomark _)) (fss_one (fs_ret (fe_cmp (op_eqDD (hu64 hr)) ok_eq (fe_var 4) (fe_un un_neg ok_neg (fe_var 6)) (nomark _)))) fss_nil) (fss_cons (fs_if (ft_cmp (op_eqDD (hu64 hr)) ok_eq (fe_var 2) fe_str (nomark _)) (fss_one (fs_ret (fe_cmp (op_eqDD (hu64 hr)) ok_eq (fe_var 4) (fe_callD D_sign (hr.mono (by decide)) (fa_cons (fe_op op_sub ok_sub (fe_var 5) (fe_callD D_mark_place (hr.mono (by decide)) (fa_cons (fe_ix (fe_var 1) fe_int) fa_nil))) fa_nil)) (nomark _)))) fss_nil) (fss_cons (fs_set (i := 7) rfl (by first | exact Or.inl rfl | exact Or.inr rfl) (fe_ix (fe_ix (fe_var 0) (fe_ix (fe_var 1) fe_int)) fe_int) sc_keeps.nd (Or.inl rfl)) (fss_cons (fs_if (ft_cmp (op_eqDD (hu64 hr)) ok_eq (fe_var 2) fe_str (nomark _)) (fss_one (fs_ret (fe_cmp (op_eqDD (hu64 hr)) ok_eq (fe_var 4) (fe_op op_mulD ok_mul (fe_var 6) (fe_var 7)) (nomark _)))) fss_nil) (fss_one (fs_ret (fe_callD D_may_be_sum (hr.mono (by decide)) (fa_cons (fe_var 4) (fa_cons (fe_var 6) (fa_cons (fe_var 7) fa_nil)))))))))))))))))
abbrev s_first_broken : Stmt := topS 13
abbrev N_first_broken : List Str := ["ties", "room", "number", "tie"]
theorem sc_first_broken : FnScope N_first_broken ["ties", "room"] (defScope s_first_broken) := ⟨rfl, rfl, rfl, by decide +kernel, rfl, by decide +kernel, by decide +kernel⟩
def m_first_broken : Sx := (sSeq (sFor (mEn (mVar 0)) (gTp 2 (gsCons (gNm 2) (gsCons (gNm 3) gsNil))) (sIf (mNot (mTst (mCall F_keeps (mCons (mVar 1) (mCons (mVar 3) mNil))))) (sRet (mVar 2)) sNx)) (sRet (mC .none)))
def F_first_broken : List Vl → Option Vl := bodyP 4 2 (m_first_broken)
theorem ok_first_broken (T : Tx K w mg C) (h : Hr K mg "first_broken" s_first_broken) (D_keeps : Dn Pg w K mg base CX0 3 "keeps" ["room", "tie"] (spP (pm K ns C) F_keeps)) : Dn Pg w K mg base CX0 4 "first_broken" ["ties", "room"] (spP (pm K ns C) F_first_broken) :=
  dn_P (fx := fun _ => 0) h sc_first_broken (by decide) (fun _ _ _ _ _ _ us hl => match us, hl with | [_, _], _ => rfl) (fun f cdv A outer s H E hr => 
    (fss_cons (fs_for (fi_enum (fe_var 0) T.n_enumerate) (pg_tup rfl (pgs_cons (pg_name (i := 2) sc_first_broken.nd rfl (by first | exact Or.inl rfl | exact Or.inr rfl) (by first | exact Or.inl rfl | exact Or.inr rfl)) (pgs_cons (pg_name (i := 3) sc_first_broken.nd rfl (by first | exact Or.inl rfl | exact Or.inr rfl) (by first | exact Or.inl rfl | exact Or.inr rfl)) pgs_nil))) (gok_tup 2 (gsok_cons (gok_name 2) (gsok_cons (gok_name 3) gsok_nil))) (fss_one (fs_if (ft_not (ft_val (fe_callD D_keeps (hr.mono (by decide)) (fa_cons (fe_var 1) (fa_cons (fe_var 3) fa_nil))))) (fss_one (fs_ret (fe_var 2))) fss_nil)) PassesOwn.never) (fss_one (fs_ret fe_non))))
abbrev s_nexts : Stmt := topS 18
abbrev N_nexts : List Str := ["house", "room", "ways", "ties", "_", "marks", "state", "other"]
theorem sc_nexts : FnScope N_nexts ["house", "room"] (defScope s_nexts) := ⟨rfl, rfl, rfl, by decide +kernel, rfl, by decide +kernel, by decide +kernel⟩
def m_nexts : Sx := (sSeq (sDropX (mCallX F_check_room (mCons (mVar 0) (mCons (mVar 1) mNil)))) (sSeq (sSet 2 (mList (mLc [4, 5, 6] (mZ3 (mList (mHse F_House_things (mVar 0))) (mVar 1)) (gTp 2 (gsCons (gTp 2 (gsCons (gNm 4) (gsCons (gNm 5) gsNil))) (gsCons (gNm 6) gsNil))) mYes (mCall F_ways_on (mCons (mVar 5) (mCons (mVar 6) mNil)))))) (sSeq (sSet 3 (mList (mHse F_House_ties (mVar 0)))) (sRetL (mLc [7] (mSeq (mCall F_one_of_each (mCons (mVar 2) mNil))) (gNm 7) (mAnd (mTst (m2 neD (mVar 7) (mVar 1))) (mTst (m2 isND (mCall F_first_broken (mCons (mVar 3) (mCons (mVar 7) mNil))) (mC .none)))) (mVar 7))))))
def F_nexts : List Vl → Option (List PyData) := bodyL 8 2 (m_nexts)
theorem ok_nexts (T : Tx K w mg C) (h : Hr K mg "nexts" s_nexts) (D_one_of_each : Dn Pg w K mg base CX0 1 "one_of_each" ["lists"] (spP (pm K ns C) F_one_of_each)) (D_first_broken : Dn Pg w K mg base CX0 4 "first_broken" ["ties", "room"] (spP (pm K ns C) F_first_broken)) (D_House_ties : Dm Pg w K mg base 1 C "ties" (spL (pm K ns C) F_House_ties)) (D_House_things : Dm Pg w K mg base 1 C "things" (spL (pm K ns C) F_House_things)) (D_ways_on : Dn Pg w K mg base CX0 2 "ways_on" ["marks", "state"] (spP (pm K ns C) F_ways_on)) (D_check_room : Dn Pg w K mg base (L2.CX Pg w) 3 "check_room" ["house", "room"] (spX (pm K ns C) fx F_check_room)) : Dn Pg w K mg base CX0 5 "nexts" ["house", "room"] (spL (pm K ns C) F_nexts) :=
  dn_L (fx := fx) h sc_nexts (by decide) (fun _ _ _ _ _ _ us hl => match us, hl with | [_, _], _ => rfl) (fun f cdv A outer s H E hr => 
    (fss_cons (fs_exprX (fx_callD D_check_room (hr.mono (by decide)) (takesF (X := _)) (fa_cons (fe_var 0) (fa_cons (fe_var 1) fa_nil)))) (fss_cons (PS.imp (st_lc (i := 2) rfl rfl (sw_true rfl rfl rfl (by decide +kernel)) (fi_zip3 (fe_list (fl_hse T.cH D_House_things (hr.mono (by decide)) (fe_var 0))) (fe_var 1) T.n_zip) (blkOk_by (own := [("_", 4), ("marks", 5), ("state", 6)]) (N := N_nexts) (sc := defScope s_nexts) (by decide +kernel)) rfl (gok_tup 2 (gsok_cons (gok_tup 2 (gsok_cons (gok_name 4) (gsok_cons (gok_name 5) gsok_nil))) (gsok_cons (gok_name 6) gsok_nil))) (fun _ _ _ _ _ => (pg_tup rfl (pgs_cons (pg_tup rfl (pgs_cons (pg_name (i := 4) sc_nexts.nd rfl (by first | exact Or.inl rfl | exact Or.inr rfl) (by first | exact Or.inl rfl | exact Or.inr rfl)) (pgs_cons (pg_name (i := 5) sc_nexts.nd rfl (by first | exact Or.inl rfl | exact Or.inr rfl) (by first | exact Or.inl rfl | exact Or.inr rfl)) pgs_nil))) (pgs_cons (pg_name (i := 6) sc_nexts.nd rfl (by first | exact Or.inl rfl | exact Or.inr rfl) (by first | exact Or.inl rfl | exact Or.inr rfl)) pgs_nil)))) (fun _ _ _ _ _ => fts_nil) (fun _ _ _ _ _ => (fe_callD D_ways_on (hr.mono (by decide)) (fa_cons (fe_var 5) (fa_cons (fe_var 6) fa_nil)))) sc_nexts.nd) (tS_set fun _ _ _ h => tE_list h)) (fss_cons (fs_set (i := 3) rfl (by first | exact Or.inl rfl | exact Or.inr rfl) (fe_list (fl_hse T.cH D_House_ties (hr.mono (by decide)) (fe_var 0))) sc_nexts.nd (Or.inl rfl)) (fss_one (fs_retL (fl_lc (fi_seq (fe_callD D_one_of_each (hr.mono (by decide)) (fa_cons (fe_var 2) fa_nil))) (blkOk_by (own := [("other", 7)]) (N := N_nexts) (sc := defScope s_nexts) (by decide +kernel)) rfl (gok_name 7) (fun _ _ _ _ _ => (pg_name (i := 7) sc_nexts.nd rfl (by first | exact Or.inl rfl | exact Or.inr rfl) (by first | exact Or.inl rfl | exact Or.inr rfl))) (fun _ _ _ _ _ => (fts_one (ft_w (fw_and (ft_cmp (op_neDD (hu64 hr)) ok_ne (fe_var 7) (fe_var 1) (nomark _)) (fw_and1 (ft_cmp op_isN ok_isN (fe_callD D_first_broken (hr.mono (by decide)) (fa_cons (fe_var 3) (fa_cons (fe_var 7) fa_nil))) fe_non (nomark _))))))) (fun _ _ _ _ _ => (fe_var 7)) sc_nexts.nd)))))))
abbrev s_nexts_of_each : Stmt := topS 23
abbrev N_nexts_of_each : List Str := ["house", "room", "ends", "nexts_of", "waiting", "at"]
theorem sc_nexts_of_each : FnScope N_nexts_of_each ["house", "room", "ends"] (defScope s_nexts_of_each) := ⟨rfl, rfl, rfl, by decide +kernel, rfl, by decide +kernel, by decide +kernel⟩
theorem ok_nexts_of_each (T : Tx K w mg C) (h : Hr K mg "nexts_of_each" s_nexts_of_each) (D_nexts : Dn Pg w K mg base CX0 5 "nexts" ["house", "room"] (spL (pm K ns C) F_nexts)) : Dn Pg w K mg base CX0 6 "nexts_of_each" ["house", "room", "ends"] (spN Pg w (pm K ns C) F_nexts 16000000) :=
  dn_walk h sc_nexts_of_each rfl rfl (fun _ _ _ _ _ _ us hl => match us, hl with | [_, _, _], _ => rfl) rfl (fun f cdv A outer s H E hr =>
    (pss_cons (ps_set (i := 3) sc_nexts_of_each.nd rfl (by first | exact Or.inl rfl | exact Or.inr rfl) pe_dnewK rfl (Or.inl rfl)) (pss_cons (ps_set (i := 4) sc_nexts_of_each.nd rfl (by first | exact Or.inl rfl | exact Or.inr rfl) (pe_lst (pa_cons (pv 1) pa_nil)) rfl (Or.inl rfl)) (pss_cons (ps_while PassesOwn.never (pt_truth (pv 4) (fun _ => rfl)) (pss_cons (ps_set (i := 5) sc_nexts_of_each.nd rfl (by first | exact Or.inl rfl | exact Or.inr rfl) (pe_bm0 PySem.F.plainAttrs_list PySem.F.slot_list_pop PySem.F.type_list_pop mt_pop (pv 4)) rfl (Or.inl rfl)) (pss_cons (ps_if (pt_cmpR (FD.op_ninN (hu64 hr)) (pv 5) (pv 3) rfl) (pss_cons (ps_asg (pe_ifExp (pt_cmpR (FD.op_inN (hu64 hr)) (pv 5) (pv 2) rfl) (pe_lst pa_nil) (pe_callDN D_nexts (hr.mono (by decide)) (pa_cons (pv 0) (pa_cons (pv 5) pa_nil)))) (pg_sub (pv 3) (pv 5) (FD.set_N (hu64 hr)))) (pss_cons (ps_expr (pe_bm PySem.F.plainAttrs_list PySem.F.slot_list_extend PySem.F.type_list_extend mt_extend (pv 4) (pa_cons (pe_ix (FD.ix_N (hu64 hr)) (pv 3) (pv 5) (fun _ _ => rfl)) pa_nil))) pss_nil)) pss_nil) pss_nil))) (pss_cons (ps_ret (pv 3)) pss_nil)))))
abbrev s_reach : Stmt := topS 22
abbrev N_reach : List Str := ["house", "room"]
theorem sc_reach : FnScope N_reach ["house", "room"] (defScope s_reach) := ⟨rfl, rfl, rfl, by decide +kernel, rfl, by decide +kernel, by decide +kernel⟩
def m_reach : Sx := (sSeq (sDropX (mCallX F_check_room (mCons (mVar 0) (mCons (mVar 1) mNil)))) (sRetL (mSrtW F_nexts 16000000 (mVar 0) (mVar 1))))
def F_reach : List Vl → Option (List PyData) := bodyL 2 2 (m_reach)
theorem ok_reach (T : Tx K w mg C) (h : Hr K mg "reach" s_reach) (D_nexts_of_each : Dn Pg w K mg base CX0 6 "nexts_of_each" ["house", "room", "ends"] (spN Pg w (pm K ns C) F_nexts 16000000)) (D_check_room : Dn Pg w K mg base (L2.CX Pg w) 3 "check_room" ["house", "room"] (spX (pm K ns C) fx F_check_room)) : Dn Pg w K mg base CX0 7 "reach" ["house", "room"] (spL (pm K ns C) F_reach) :=
  dn_L (fx := fx) h sc_reach (by decide) (fun _ _ _ _ _ _ us hl => match us, hl with | [_, _], _ => rfl) (fun f cdv A outer s H E hr => 
    (fss_cons (fs_exprX (fx_callD D_check_room (hr.mono (by decide)) (takesF (X := _)) (fa_cons (fe_var 0) (fa_cons (fe_var 1) fa_nil)))) (fss_one (fs_retL (fl_sortW D_nexts_of_each (hr.mono (by decide)) (fe_var 0) (fe_var 1) T.n_sorted)))))
abbrev s_all_rooms : Stmt := topS 8
abbrev N_all_rooms : List Str := ["house", "_", "marks"]
theorem sc_all_rooms : FnScope N_all_rooms ["house"] (defScope s_all_rooms) := ⟨rfl, rfl, rfl, by decide +kernel, rfl, by decide +kernel, by decide +kernel⟩
def m_all_rooms : Sx := (sRet (mCall F_one_of_each (mCons (mList (mLc [1, 2] (mSeq (mList (mHse F_House_things (mVar 0)))) (gTp 2 (gsCons (gNm 1) (gsCons (gNm 2) gsNil))) mYes (mCall F_states (mCons (mVar 2) mNil)))) mNil)))
def F_all_rooms : List Vl → Option Vl := bodyP 3 1 (m_all_rooms)
theorem ok_all_rooms (T : Tx K w mg C) (h : Hr K mg "all_rooms" s_all_rooms) (D_one_of_each : Dn Pg w K mg base CX0 1 "one_of_each" ["lists"] (spP (pm K ns C) F_one_of_each)) (D_House_things : Dm Pg w K mg base 1 C "things" (spL (pm K ns C) F_House_things)) (D_states : Dn Pg w K mg base CX0 2 "states" ["marks"] (spP (pm K ns C) F_states)) : Dn Pg w K mg base CX0 3 "all_rooms" ["house"] (spP (pm K ns C) F_all_rooms) :=
  dn_P (fx := fun _ => 0) h sc_all_rooms (by decide) (fun _ _ _ _ _ _ us hl => match us, hl with | [_], _ => rfl) (fun f cdv A outer s H E hr => 
    (fss_one (fs_ret (fe_callD D_one_of_each (hr.mono (by decide)) (fa_cons (fe_list (fl_lc (fi_seq (fe_list (fl_hse T.cH D_House_things (hr.mono (by decide)) (fe_var 0)))) (blkOk_by (own := [("_", 1), ("marks", 2)]) (N := N_all_rooms) (sc := defScope s_all_rooms) (by decide +kernel)) rfl (gok_tup 2 (gsok_cons (gok_name 1) (gsok_cons (gok_name 2) gsok_nil))) (fun _ _ _ _ _ => (pg_tup rfl (pgs_cons (pg_name (i := 1) sc_all_rooms.nd rfl (by first | exact Or.inl rfl | exact Or.inr rfl) (by first | exact Or.inl rfl | exact Or.inr rfl)) (pgs_cons (pg_name (i := 2) sc_all_rooms.nd rfl (by first | exact Or.inl rfl | exact Or.inr rfl) (by first | exact Or.inl rfl | exact Or.inr rfl)) pgs_nil)))) (fun _ _ _ _ _ => fts_nil) (fun _ _ _ _ _ => (fe_callD D_states (hr.mono (by decide)) (fa_cons (fe_var 2) fa_nil))) sc_all_rooms.nd)) fa_nil)))))
abbrev s_rooms : Stmt := topS 6
abbrev N_rooms : List Str := ["house", "ties", "room"]
theorem sc_rooms : FnScope N_rooms ["house"] (defScope s_rooms) := ⟨rfl, rfl, rfl, by decide +kernel, rfl, by decide +kernel, by decide +kernel⟩
def m_rooms : Sx := (sSeq (sSet 1 (mList (mHse F_House_ties (mVar 0)))) (sRetL (mLc [2] (mSeq (mCall F_all_rooms (mCons (mVar 0) mNil))) (gNm 2) (mTst (m2 isND (mCall F_first_broken (mCons (mVar 1) (mCons (mVar 2) mNil))) (mC .none))) (mVar 2))))
def F_rooms : List Vl → Option (List PyData) := bodyL 3 1 (m_rooms)
theorem ok_rooms (T : Tx K w mg C) (h : Hr K mg "rooms" s_rooms) (D_all_rooms : Dn Pg w K mg base CX0 3 "all_rooms" ["house"] (spP (pm K ns C) F_all_rooms)) (D_first_broken : Dn Pg w K mg base CX0 4 "first_broken" ["ties", "room"] (spP (pm K ns C) F_first_broken)) (D_House_ties : Dm Pg w K mg base 1 C "ties" (spL (pm K ns C) F_House_ties)) : Dn Pg w K mg base CX0 5 "rooms" ["house"] (spL (pm K ns C) F_rooms) :=
  dn_L (fx := fun _ => 0) h sc_rooms (by decide) (fun _ _ _ _ _ _ us hl => match us, hl with | [_], _ => rfl) (fun f cdv A outer s H E hr => 
    (fss_cons (fs_set (i := 1) rfl (by first | exact Or.inl rfl | exact Or.inr rfl) (fe_list (fl_hse T.cH D_House_ties (hr.mono (by decide)) (fe_var 0))) sc_rooms.nd (Or.inl rfl)) (fss_one (fs_retL (fl_lc (fi_seq (fe_callD D_all_rooms (hr.mono (by decide)) (fa_cons (fe_var 0) fa_nil))) (blkOk_by (own := [("room", 2)]) (N := N_rooms) (sc := defScope s_rooms) (by decide +kernel)) rfl (gok_name 2) (fun _ _ _ _ _ => (pg_name (i := 2) sc_rooms.nd rfl (by first | exact Or.inl rfl | exact Or.inr rfl) (by first | exact Or.inl rfl | exact Or.inr rfl))) (fun _ _ _ _ _ => (fts_one (ft_cmp op_isN ok_isN (fe_callD D_first_broken (hr.mono (by decide)) (fa_cons (fe_var 1) (fa_cons (fe_var 2) fa_nil))) fe_non (nomark _)))) (fun _ _ _ _ _ => (fe_var 2)) sc_rooms.nd)))))
abbrev s_is_name : Stmt := topS 38
abbrev N_is_name : List Str := ["text", "letter"]
theorem sc_is_name : FnScope N_is_name ["text"] (defScope s_is_name) := ⟨rfl, rfl, rfl, by decide +kernel, rfl, by decide +kernel, by decide +kernel⟩
def m_is_name : Sx := (sRet (mAndV (mChain leD leD (mC (.int 1)) (m1 lenD (mVar 0)) (mC (.int 8))) (m1 allD (mList (mLc [1] (mSeq (mVar 0)) (gNm 1) mYes (m2 inD (mVar 1) (mC (.str (PySem.Str.ofString "abcdefghijklmnopqrstuvwxyz")))))))))
def F_is_name : List Vl → Option Vl := bodyP 2 1 (m_is_name)
theorem ok_is_name (T : Tx K w mg C) (h : Hr K mg "is_name" s_is_name) : Dn Pg w K mg base CX0 1 "is_name" ["text"] (spP (pm K ns C) F_is_name) :=
  dn_P (fx := fun _ => 0) h sc_is_name (by decide) (fun _ _ _ _ _ _ us hl => match us, hl with | [_], _ => rfl) (fun f cdv A outer s H E hr => 
    (fss_one (fs_ret (fe_and (fe_chain op_le ok_le op_le ok_le fe_int (fe_b1 FL.call_lenD ok_len T.n_len (by decide +kernel) (fe_var 0)) (fe_globI T.g_LONGEST_NAME)) (fe_one (fe_b1 (cr_all rfl) ok_all T.n_all (by decide +kernel) (fe_list (fl_lc (fi_seq (fe_var 0)) (blkOk_by (own := [("letter", 1)]) (N := N_is_name) (sc := defScope s_is_name) (by decide +kernel)) rfl (gok_name 1) (fun _ _ _ _ _ => (pg_name (i := 1) sc_is_name.nd rfl (by first | exact Or.inl rfl | exact Or.inr rfl) (by first | exact Or.inl rfl | exact Or.inr rfl))) (fun _ _ _ _ _ => fts_nil) (fun _ _ _ _ _ => (fe_cmp (op_inDD (hu65 hr)) ok_in (fe_var 1) (fe_globS T.g_LETTERS) (by with_unfolding_all rfl))) sc_is_name.nd))))))))
abbrev s_are_marks : Stmt := topS 39
abbrev N_are_marks : List Str := ["marks", "mark", "low", "high"]
theorem sc_are_marks : FnScope N_are_marks ["marks"] (defScope s_are_marks) := ⟨rfl, rfl, rfl, by decide +kernel, rfl, by decide +kernel, by decide +kernel⟩
def m_are_marks : Sx := (sSeq (sIf (mNot (mTst (mChain leD leD (mC (.int 1)) (m1 lenD (mVar 0)) (mC (.int 3))))) (sRet (mC (.bool false))) sNx) (sSeq (sIf (mNot (mTst (m1 allD (mList (mLc [1] (mSeq (mVar 0)) (gNm 1) mYes (mChain leD leD (mC (.int (-99))) (mVar 1) (mC (.int 99)))))))) (sRet (mC (.bool false))) sNx) (sRet (m1 allD (mList (mLc [2, 3] (mZ3 (mVar 0) (mSl (mVar 0) (mSome (mC (.int 1))) mNone)) (gTp 2 (gsCons (gNm 2) (gsCons (gNm 3) gsNil))) mYes (m2 geD (m2 subD (mVar 3) (mVar 2)) (mC (.int 2)))))))))
def F_are_marks : List Vl → Option Vl := bodyP 4 1 (m_are_marks)
theorem ok_are_marks (T : Tx K w mg C) (h : Hr K mg "are_marks" s_are_marks) : Dn Pg w K mg base CX0 1 "are_marks" ["marks"] (spP (pm K ns C) F_are_marks) :=
  dn_P (fx := fun _ => 0) h sc_are_marks (by decide) (fun _ _ _ _ _ _ us hl => match us, hl with | [_], _ => rfl) (fun f cdv A outer s H E hr => 
    (fss_cons (fs_if (ft_not (ft_chain op_le ok_le op_le ok_le fe_int (fe_b1 FL.call_lenD ok_len T.n_len (by decide +kernel) (fe_var 0)) (fe_globI T.g_MOST_MARKS))) (fss_one (fs_ret fe_bl)) fss_nil) (fss_cons (fs_if (ft_not (ft_val (fe_b1 (cr_all rfl) ok_all T.n_all (by decide +kernel) (fe_list (fl_lc (fi_seq (fe_var 0)) (blkOk_by (own := [("mark", 1)]) (N := N_are_marks) (sc := defScope s_are_marks) (by decide +kernel)) rfl (gok_name 1) (fun _ _ _ _ _ => (pg_name (i := 1) sc_are_marks.nd rfl (by first | exact Or.inl rfl | exact Or.inr rfl) (by first | exact Or.inl rfl | exact Or.inr rfl))) (fun _ _ _ _ _ => fts_nil) (fun _ _ _ _ _ => (fe_chain op_le ok_le op_le ok_le (fe_globI T.g_LOWEST_MARK) (fe_var 1) (fe_globI T.g_HIGHEST_MARK))) sc_are_marks.nd))))) (fss_one (fs_ret fe_bl)) fss_nil) (fss_one (fs_ret (fe_b1 (cr_all rfl) ok_all T.n_all (by decide +kernel) (fe_list (fl_lc (fi_zip3 (fe_var 0) (fe_sl (fe_var 0) (fo_some fe_int) fo_none) T.n_zip) (blkOk_by (own := [("low", 2), ("high", 3)]) (N := N_are_marks) (sc := defScope s_are_marks) (by decide +kernel)) rfl (gok_tup 2 (gsok_cons (gok_name 2) (gsok_cons (gok_name 3) gsok_nil))) (fun _ _ _ _ _ => (pg_tup rfl (pgs_cons (pg_name (i := 2) sc_are_marks.nd rfl (by first | exact Or.inl rfl | exact Or.inr rfl) (by first | exact Or.inl rfl | exact Or.inr rfl)) (pgs_cons (pg_name (i := 3) sc_are_marks.nd rfl (by first | exact Or.inl rfl | exact Or.inr rfl) (by first | exact Or.inl rfl | exact Or.inr rfl)) pgs_nil)))) (fun _ _ _ _ _ => fts_nil) (fun _ _ _ _ _ => (fe_cmp op_ge ok_ge (fe_op op_sub ok_sub (fe_var 3) (fe_var 2)) (fe_globI T.g_LEAST_GAP) (nomark _))) sc_are_marks.nd))))))))
abbrev s_check_things : Stmt := topS 36
abbrev N_check_things : List Str := ["things", "names", "number", "name", "marks"]
theorem sc_check_things : FnScope N_check_things ["things"] (defScope s_check_things) := ⟨rfl, rfl, rfl, by decide +kernel, rfl, by decide +kernel, by decide +kernel⟩
def m_check_things : Sx := (sSeq (sIf (mNot (mTst (mChain leD leD (mC (.int 1)) (m1 lenD (mVar 0)) (mC (.int 3))))) sNo sNx) (sSeq (sOwn 1 (mLst mNil)) (sFor (mEn (mVar 0)) (gTp 2 (gsCons (gNm 2) (gsCons (gTp 2 (gsCons (gNm 3) (gsCons (gNm 4) gsNil))) gsNil))) (sSeq (sIf (mOr (mTst (mInO 1 (mVar 3))) (mOr (mNot (mTst (mCall F_is_name (mCons (mVar 3) mNil)))) (mNot (mTst (mCall F_are_marks (mCons (mVar 4) mNil)))))) sNo sNx) (sApp 1 (mVar 3))))))
def F_check_things : List Vl → Option Vl := bodyP 5 1 (m_check_things)
theorem ok_check_things (T : Tx K w mg C) (h : Hr K mg "check_things" s_check_things) (D_is_name : Dn Pg w K mg base CX0 1 "is_name" ["text"] (spP (pm K ns C) F_is_name)) (D_are_marks : Dn Pg w K mg base CX0 1 "are_marks" ["marks"] (spP (pm K ns C) F_are_marks)) : Dn Pg w K mg base CX0 2 "check_things" ["things"] (spP (pm K ns C) F_check_things) :=
  dn_P (fx := fun _ => 0) h sc_check_things (by decide) (fun _ _ _ _ _ _ us hl => match us, hl with | [_], _ => rfl) (fun f cdv A outer s H E hr => 
    (fss_cons (fs_if (ft_not (ft_chain op_le ok_le op_le ok_le fe_int (fe_b1 FL.call_lenD ok_len T.n_len (by decide +kernel) (fe_var 0)) (fe_globI T.g_MOST_THINGS))) (fss_one fs_no) fss_nil) (fss_cons (fs_own (i := 1) rfl (by first | exact Or.inl rfl | exact Or.inr rfl) (fl_lst fa_nil) sc_check_things.nd (Or.inl rfl)) (fss_one (fs_for (fi_enum (fe_var 0) T.n_enumerate) (pg_tup rfl (pgs_cons (pg_name (i := 2) sc_check_things.nd rfl (by first | exact Or.inl rfl | exact Or.inr rfl) (by first | exact Or.inl rfl | exact Or.inr rfl)) (pgs_cons (pg_tup rfl (pgs_cons (pg_name (i := 3) sc_check_things.nd rfl (by first | exact Or.inl rfl | exact Or.inr rfl) (by first | exact Or.inl rfl | exact Or.inr rfl)) (pgs_cons (pg_name (i := 4) sc_check_things.nd rfl (by first | exact Or.inl rfl | exact Or.inr rfl) (by first | exact Or.inl rfl | exact Or.inr rfl)) pgs_nil))) pgs_nil))) (gok_tup 2 (gsok_cons (gok_name 2) (gsok_cons (gok_tup 2 (gsok_cons (gok_name 3) (gsok_cons (gok_name 4) gsok_nil))) gsok_nil))) (fss_cons (fs_if (ft_w (fw_or (ft_inV (fe_var 3) (pv 1)) (fw_or (ft_not (ft_val (fe_callD D_is_name (hr.mono (by decide)) (fa_cons (fe_var 3) fa_nil)))) (fw_or1 (ft_not (ft_val (fe_callD D_are_marks (hr.mono (by decide)) (fa_cons (fe_var 4) fa_nil)))))))) (fss_one fs_no) fss_nil) (fss_one (fs_append (pv 1) (fe_var 3)))) PassesOwn.never)))))
abbrev s_is_number_below : Stmt := topS 41
abbrev N_is_number_below : List Str := ["number", "count"]
theorem sc_is_number_below : FnScope N_is_number_below ["number", "count"] (defScope s_is_number_below) := ⟨rfl, rfl, rfl, by decide +kernel, rfl, by decide +kernel, by decide +kernel⟩
def m_is_number_below : Sx := (sRet (mAndV (m1 (isiD "int") (mVar 0)) (mChain leD ltD (mC (.int 0)) (mVar 0) (mVar 1))))
def F_is_number_below : List Vl → Option Vl := bodyP 2 2 (m_is_number_below)
theorem ok_is_number_below (T : Tx K w mg C) (h : Hr K mg "is_number_below" s_is_number_below) : Dn Pg w K mg base CX0 1 "is_number_below" ["number", "count"] (spP (pm K ns C) F_is_number_below) :=
  dn_P (fx := fun _ => 0) h sc_is_number_below (by decide) (fun _ _ _ _ _ _ us hl => match us, hl with | [_, _], _ => rfl) (fun f cdv A outer s H E hr => 
    (fss_one (fs_ret (fe_and (fe_isi (T := "int") (fe_var 0) T.n_isinstance (by decide) T.n_int (by decide +kernel)) (fe_one (fe_chain op_le ok_le op_lt ok_lt fe_int (fe_var 0) (fe_var 1)))))))
abbrev s_is_tie : Stmt := topS 40
abbrev N_is_tie : List Str := ["things", "tie", "word", "many", "named", "rest", "marks", "at"]
theorem sc_is_tie : FnScope N_is_tie ["things", "tie"] (defScope s_is_tie) := ⟨rfl, rfl, rfl, by decide +kernel, rfl, by decide +kernel, by decide +kernel⟩
def m_is_tie : Sx := (sSeq (sIf (mOr (mTst (m2 eqD (m1 lenD (mVar 1)) (mC (.int 0)))) (mTst (m1 (ninG [(PySem.Str.ofString "with", 2), (PySem.Str.ofString "against", 2), (PySem.Str.ofString "sum", 3), (PySem.Str.ofString "product", 3), (PySem.Str.ofString "rate", 2), (PySem.Str.ofString "under", 1), (PySem.Str.ofString "over", 1)]) (m2 ixD (mVar 1) (mC (.int 0)))))) (sRet (mC (.bool false))) sNx) (sSeq (sSet 2 (m2 ixD (mVar 1) (mC (.int 0)))) (sSeq (sSet 3 (m1 (ixG [(PySem.Str.ofString "with", 2), (PySem.Str.ofString "against", 2), (PySem.Str.ofString "sum", 3), (PySem.Str.ofString "product", 3), (PySem.Str.ofString "rate", 2), (PySem.Str.ofString "under", 1), (PySem.Str.ofString "over", 1)]) (mVar 2))) (sSeq (sSet 4 (mSl (mVar 1) (mSome (mC (.int 1))) (mSome (m2 addD (mVar 3) (mC (.int 1)))))) (sSeq (sSet 5 (mSl (mVar 1) (mSome (m2 addD (mVar 3) (mC (.int 1)))) mNone)) (sSeq (sIf (mOr (mTst (m2 neD (m1 lenD (mVar 4)) (mVar 3))) (mNot (mTst (m1 allD (mList (mLc [7] (mSeq (mVar 4)) (gNm 7) mYes (mCall F_is_number_below (mCons (mVar 7) (mCons (m1 lenD (mVar 0)) mNil))))))))) (sRet (mC (.bool false))) sNx) (sSeq (sIf (mTst (m2 inD (mVar 2) (mC (.tuple [(.str (PySem.Str.ofString "rate")), (.str (PySem.Str.ofString "under")), (.str (PySem.Str.ofString "over"))])))) (sSeq (sSet 6 (m2 ixD (m2 ixD (mVar 0) (m2 ixD (mVar 4) (m1 negD (mC (.int 1))))) (mC (.int 1)))) (sRet (mAndV (m2 eqD (m1 lenD (mVar 5)) (mC (.int 1))) (mCall F_is_number_below (mCons (m2 ixD (mVar 5) (mC (.int 0))) (mCons (m1 lenD (mVar 6)) mNil)))))) sNx) (sRet (mAndV (m2 eqD (m1 lenD (mVar 5)) (mC (.int 0))) (m2 ninD (m2 ixD (mVar 4) (mC (.int 0))) (mSl (mVar 4) (mSome (mC (.int 1))) mNone)))))))))))
def F_is_tie : List Vl → Option Vl := bodyP 8 2 (m_is_tie)
theorem ok_is_tie (T : Tx K w mg C) (h : Hr K mg "is_tie" s_is_tie) (D_is_number_below : Dn Pg w K mg base CX0 1 "is_number_below" ["number", "count"] (spP (pm K ns C) F_is_number_below)) : Dn Pg w K mg base CX0 2 "is_tie" ["things", "tie"] (spP (pm K ns C) F_is_tie) :=
  dn_P (fx := fun _ => 0) h sc_is_tie (by decide) (fun _ _ _ _ _ _ us hl => match us, hl with | [_, _], _ => rfl) (fun f cdv A outer s H E hr => 
    (fss_cons (fs_if (ft_w (fw_or (ft_cmp (op_eqDD (hu64 hr)) ok_eq (fe_b1 FL.call_lenD ok_len T.n_len (by decide +kernel) (fe_var 1)) fe_int (nomark _)) (fw_or1 (ft_ninG T.g_THINGS_NAMED (fe_ix (fe_var 1) fe_int))))) (fss_one (fs_ret fe_bl)) fss_nil) (fss_cons (fs_set (i := 2) rfl (by first | exact Or.inl rfl | exact Or.inr rfl) (fe_ix (fe_var 1) fe_int) sc_is_tie.nd (Or.inl rfl)) (fss_cons (fs_set (i := 3) rfl (by first | exact Or.inl rfl | exact Or.inr rfl) (fe_ixG T.g_THINGS_NAMED (fe_var 2)) sc_is_tie.nd (Or.inl rfl)) (fss_cons (fs_set (i := 4) rfl (by first | exact Or.inl rfl | exact Or.inr rfl) (fe_sl (fe_var 1) (fo_some fe_int) (fo_some (fe_op op_addD ok_add (fe_var 3) fe_int))) sc_is_tie.nd (Or.inl rfl)) (fss_cons (fs_set (i := 5) rfl (by first | exact Or.inl rfl | exact Or.inr rfl) (fe_sl (fe_var 1) (fo_some (fe_op op_addD ok_add (fe_var 3) fe_int)) fo_none) sc_is_tie.nd (Or.inl rfl)) (fss_cons (fs_if (ft_w (fw_or (ft_cmp (op_neDD (hu64 hr)) ok_ne (fe_b1 FL.call_lenD ok_len T.n_len (by decide +kernel) (fe_var 4)) (fe_var 3) (nomark _)) (fw_or1 (ft_not (ft_val (fe_b1 (cr_all rfl) ok_all T.n_all (by decide +kernel) (fe_list (fl_lc (fi_seq (fe_var 4)) (blkOk_by (own := [("at", 7)]) (N := N_is_tie) (sc := defScope s_is_tie) (by decide +kernel)) rfl (gok_name 7) (fun _ _ _ _ _ => (pg_name (i := 7) sc_is_tie.nd rfl (by first | exact Or.inl rfl | exact Or.inr rfl) (by first | exact Or.inl rfl | exact Or.inr rfl))) (fun _ _ _ _ _ => fts_nil) (fun _ _ _ _ _ => (fe_callD D_is_number_below (hr.mono (by decide)) (fa_cons (fe_var 7) (fa_cons (fe_b1 FL.call_lenD ok_len T.n_len (by decide +kernel) (fe_var 0)) fa_nil)))) sc_is_tie.nd)))))))) (fss_one (fs_ret fe_bl)) fss_nil) (fss_cons (fs_if (ft_cmp (op_inDD (hu65 hr)) ok_in (fe_var 2) (fe_globT T.g_MARK_WORDS) (by with_unfolding_all rfl)) (fss_cons (fs_set (i := 6) rfl (by first | exact Or.inl rfl | exact Or.inr rfl) (fe_ix (fe_ix (fe_var 0) (fe_ix (fe_var 4) (fe_un un_neg ok_neg fe_int))) fe_int) sc_is_tie.nd (Or.inl rfl)) (fss_one (fs_ret (fe_and (fe_cmp (op_eqDD (hu64 hr)) ok_eq (fe_b1 FL.call_lenD ok_len T.n_len (by decide +kernel) (fe_var 5)) fe_int (nomark _)) (fe_one (fe_callD D_is_number_below (hr.mono (by decide)) (fa_cons (fe_ix (fe_var 5) fe_int) (fa_cons (fe_b1 FL.call_lenD ok_len T.n_len (by decide +kernel) (fe_var 6)) fa_nil)))))))) fss_nil) (fss_one (fs_ret (fe_and (fe_cmp (op_eqDD (hu64 hr)) ok_eq (fe_b1 FL.call_lenD ok_len T.n_len (by decide +kernel) (fe_var 5)) fe_int (nomark _)) (fe_one (fe_cmp (op_ninDD (hu65 hr)) ok_nin (fe_ix (fe_var 4) fe_int) (fe_sl (fe_var 4) (fo_some fe_int) fo_none) (by with_unfolding_all rfl))))))))))))))
abbrev s_check_ties : Stmt := topS 37
abbrev N_check_ties : List Str := ["things", "ties", "number", "tie"]
theorem sc_check_ties : FnScope N_check_ties ["things", "ties"] (defScope s_check_ties) := ⟨rfl, rfl, rfl, by decide +kernel, rfl, by decide +kernel, by decide +kernel⟩
def m_check_ties : Sx := (sSeq (sIf (mTst (m2 gtD (m1 lenD (mVar 1)) (mC (.int 6)))) sNo sNx) (sFor (mEn (mVar 1)) (gTp 2 (gsCons (gNm 2) (gsCons (gNm 3) gsNil))) (sIf (mNot (mTst (mCall F_is_tie (mCons (mVar 0) (mCons (mVar 3) mNil))))) sNo sNx)))
def F_check_ties : List Vl → Option Vl := bodyP 4 2 (m_check_ties)
theorem ok_check_ties (T : Tx K w mg C) (h : Hr K mg "check_ties" s_check_ties) (D_is_tie : Dn Pg w K mg base CX0 2 "is_tie" ["things", "tie"] (spP (pm K ns C) F_is_tie)) : Dn Pg w K mg base CX0 3 "check_ties" ["things", "ties"] (spP (pm K ns C) F_check_ties) :=
  dn_P (fx := fun _ => 0) h sc_check_ties (by decide) (fun _ _ _ _ _ _ us hl => match us, hl with | [_, _], _ => rfl) (fun f cdv A outer s H E hr => 
    (fss_cons (fs_if (ft_cmp op_gt ok_gt (fe_b1 FL.call_lenD ok_len T.n_len (by decide +kernel) (fe_var 1)) (fe_globI T.g_MOST_TIES) (nomark _)) (fss_one fs_no) fss_nil) (fss_one (fs_for (fi_enum (fe_var 1) T.n_enumerate) (pg_tup rfl (pgs_cons (pg_name (i := 2) sc_check_ties.nd rfl (by first | exact Or.inl rfl | exact Or.inr rfl) (by first | exact Or.inl rfl | exact Or.inr rfl)) (pgs_cons (pg_name (i := 3) sc_check_ties.nd rfl (by first | exact Or.inl rfl | exact Or.inr rfl) (by first | exact Or.inl rfl | exact Or.inr rfl)) pgs_nil))) (gok_tup 2 (gsok_cons (gok_name 2) (gsok_cons (gok_name 3) gsok_nil))) (fss_one (fs_if (ft_not (ft_val (fe_callD D_is_tie (hr.mono (by decide)) (fa_cons (fe_var 0) (fa_cons (fe_var 3) fa_nil))))) (fss_one fs_no) fss_nil)) PassesOwn.never))))
abbrev s_House_things : Stmt := inClass (topS 35) 1
theorem sc_House_things : FnScope ["self"] ["self"] (defScope s_House_things) := ⟨rfl, rfl, rfl, by decide +kernel, rfl, by decide +kernel, by decide +kernel⟩
theorem ok_House_things (T : Tx K w mg C) (h : Hm K C "things" "House.things" s_House_things) : Dm Pg w K mg base 1 C "things" (spL (pm K ns C) F_House_things) :=
  dm_L (mm := sRetL (bnd (m1 fThs (mVar 0)) fun x => opt (lstD x))) h sc_House_things (by decide) (fun _ _ _ _ _ _ us hl => match us, hl with | [_], _ => rfl) (fun f cdv A outer s H E hr => fss_one (fs_retL (fl_listOf (fe_fld_things T.cH T.h_things (fe_var 0)) T.n_list))) (fun xs ds e => match xs, e with | [.hse _ _], e => e)
abbrev s_House_ties : Stmt := inClass (topS 35) 2
theorem sc_House_ties : FnScope ["self"] ["self"] (defScope s_House_ties) := ⟨rfl, rfl, rfl, by decide +kernel, rfl, by decide +kernel, by decide +kernel⟩
theorem ok_House_ties (T : Tx K w mg C) (h : Hm K C "ties" "House.ties" s_House_ties) : Dm Pg w K mg base 1 C "ties" (spL (pm K ns C) F_House_ties) :=
  dm_L (mm := sRetL (bnd (m1 fTis (mVar 0)) fun x => opt (lstD x))) h sc_House_ties (by decide) (fun _ _ _ _ _ _ us hl => match us, hl with | [_], _ => rfl) (fun f cdv A outer s H E hr => fss_one (fs_retL (fl_listOf (fe_fld_ties T.cH T.h_ties (fe_var 0)) T.n_list))) (fun xs ds e => match xs, e with | [.hse _ _], e => e)
abbrev s_House_init : Stmt := inClass (topS 35) 0
theorem sc_House_init : FnScope psI psI (defScope s_House_init) := ⟨rfl, rfl, rfl, by decide +kernel, rfl, by decide +kernel, by decide +kernel⟩
theorem ok_House (T : Tx K w mg C) (h : ∃ f fd, Fun K "__init__" "House.__init__" s_House_init f fd ∧ Mk K C f ∧ mg "House" = some (.ref C)) (D_check_things : Dn Pg w K mg base CX0 2 "check_things" ["things"] (spP (pm K ns C) F_check_things)) (D_check_ties : Dn Pg w K mg base CX0 3 "check_ties" ["things", "ties"] (spP (pm K ns C) F_check_ties)) : Dh Pg w K mg base CX0 4 C (spI (pm K ns C) C (okI F_check_things F_check_ties)) := by
  obtain ⟨f, fd, G, M, g⟩ := h
  exact ⟨f, fd, init_ok G sc_House_init T.cH T.h_things T.h_ties (fun cdv A outer s H E hr => pss_cons (ps_expr (fe_callD D_check_things (hr.mono (by decide)) (fa_cons (fe_var 1) fa_nil))) (pss_cons (ps_expr (fe_callD D_check_ties (hr.mono (by decide)) (fa_cons (fe_var 1) (fa_cons (fe_var 2) fa_nil)))) (pss_cons (ps_fld (pv 0) (fl_listOf (fe_var 1) T.n_list) rfl) (pss_one (ps_fld (pv 0) (fl_listOf (fe_var 2) T.n_list) rfl))))), M, g, G.binds (fun _ _ _ _ _ _ us hl => match us, hl with | [_, _, _], _ => rfl)⟩
abbrev s_law : Stmt := topS 55
abbrev N_law : List Str := ["_law_script", "_law_row", "_law_things_here", "_law_ties_here", "_law_tie_here", "_law_turn", "_law_every", "_law_first_here", "_law_second", "_law_third", "_law_room_here", "_law_known", "_law_one"]
theorem sc_law : FnScope N_law ["_law_script"] (defScope s_law) := ⟨rfl, rfl, rfl, by decide +kernel, rfl, by decide +kernel, by decide +kernel⟩
def m_law (ns : List Int) : Sx := (sSeq (sSet 2 (mCallR 1 (F__law_few ns) mNil)) (sSeq (sSet 3 (mCallR 1 (F__law_ties ns) (mCons (mVar 2) (mCons (mC (.int 5)) mNil)))) (sSeq (sSet 4 (mCallR 1 (F__law_tie ns) (mCons (mVar 2) mNil))) (sSeq (sSet 5 (mCallR 1 (F__law_taken ns) (mCons (m2 addD (m1 lenD (mVar 3)) (mC (.int 1))) mNil))) (sSeq (sSet 6 (m2 addD (m2 addD (mSl (mVar 3) (mSome (mVar 5)) mNone) (mList (mLst (mCons (mVar 4) mNil)))) (mSl (mVar 3) mNone (mSome (mVar 5))))) (sSeq (sSet 7 (mMake F_check_things F_check_ties (mCons (m1 listD (mVar 2)) (mCons (m1 listD (mVar 3)) mNil)))) (sSeq (sSet 8 (mMake F_check_things F_check_ties (mCons (m1 listD (mVar 2)) (mCons (m1 listD (mVar 6)) mNil)))) (sSeq (sSet 9 (mMake F_check_things F_check_ties (mCons (m1 listD (mVar 2)) (mCons (mList (mRev (mVar 6))) mNil)))) (sSeq (sSet 10 (mCallR 1 (F__law_room ns) (mCons (mVar 2) (mCons (mVar 6) mNil)))) (sSeq (sIf (mTst (m2 neD (mList (mCallL F_rooms (mCons (mVar 8) mNil))) (mList (mLc [12] (mSeq (mList (mCallL F_rooms (mCons (mVar 7) mNil)))) (gNm 12) (mTst (mCall F__law_keeps (mCons (mVar 4) (mCons (mVar 12) mNil)))) (mVar 12))))) (sRet (mC (.bool false))) sNx) (sSeq (sIf (mTst (m2 neD (mList (mCallL F_nexts (mCons (mVar 8) (mCons (mVar 10) mNil)))) (mList (mLc [12] (mSeq (mList (mCallL F_nexts (mCons (mVar 7) (mCons (mVar 10) mNil))))) (gNm 12) (mTst (mCall F__law_keeps (mCons (mVar 4) (mCons (mVar 12) mNil)))) (mVar 12))))) (sRet (mC (.bool false))) sNx) (sSeq (sSet 11 (mList (mCallL F_reach (mCons (mVar 7) (mCons (mVar 10) mNil))))) (sSeq (sIf (mTst (m2 neD (mList (mLc [12] (mSeq (mList (mCallL F_reach (mCons (mVar 8) (mCons (mVar 10) mNil))))) (gNm 12) (mTst (m2 ninD (mVar 12) (mVar 11))) (mVar 12))) (mList (mLst mNil)))) (sRet (mC (.bool false))) sNx) (sRet (mAndV (m2 eqD (mList (mCallL F_rooms (mCons (mVar 9) mNil))) (mList (mCallL F_rooms (mCons (mVar 8) mNil)))) (m2 eqD (mList (mCallL F_nexts (mCons (mVar 9) (mCons (mVar 10) mNil)))) (mList (mCallL F_nexts (mCons (mVar 8) (mCons (mVar 10) mNil))))))))))))))))))))
def F_law (ns : List Int) : Option Vl := bodyT 13 (m_law ns)
theorem ok_law (T : Tx K w mg C) {f : Addr} {fd : FuncData} (h : Fun K "law" "law" s_law f fd) (D_rooms : ∀ ns, Dn Pg w K mg base CX0 5 "rooms" ["house"] (spL (pm K ns C) F_rooms)) (D_nexts : ∀ ns, Dn Pg w K mg base CX0 5 "nexts" ["house", "room"] (spL (pm K ns C) F_nexts)) (D_reach : ∀ ns, Dn Pg w K mg base CX0 7 "reach" ["house", "room"] (spL (pm K ns C) F_reach)) (D__law_keeps : ∀ ns, Dn Pg w K mg base CX0 1 "_law_keeps" ["_law_tie_here", "_law_room_here"] (spP (pm K ns C) F__law_keeps)) (D__law_room : ∀ ns, Dn Pg w K mg base CX0 4 "_law_room" ["_law_row", "_law_things_here", "_law_ties_here"] (spR (pm K ns C) (F__law_room ns))) (D_House : ∀ ns, Dh Pg w K mg base CX0 4 C (spI (pm K ns C) C (okI F_check_things F_check_ties))) (D__law_taken : ∀ ns, Dn Pg w K mg base CX0 1 "_law_taken" ["_law_row", "_law_many"] (spR (pm K ns C) (F__law_taken ns))) (D__law_tie : ∀ ns, Dn Pg w K mg base CX0 2 "_law_tie" ["_law_row", "_law_things_here"] (spR (pm K ns C) (F__law_tie ns))) (D__law_ties : ∀ ns, Dn Pg w K mg base CX0 3 "_law_ties" ["_law_row", "_law_things_here", "_law_most"] (spR (pm K ns C) (F__law_ties ns))) (D__law_few : ∀ ns, Dn Pg w K mg base CX0 4 "_law_few" ["_law_row"] (spR (pm K ns C) (F__law_few ns))) : FnOk Pg w K mg base CX0 8 f fd ["_law_script"] (spT K F_law) :=
  fn_T (fx := fun _ => 0) h sc_law (by decide) (fun ns cdv A outer s H E hr => have D_rooms := D_rooms ns; have D_nexts := D_nexts ns; have D_reach := D_reach ns; have D__law_keeps := D__law_keeps ns; have D__law_room := D__law_room ns; have D_House := D_House ns; have D__law_taken := D__law_taken ns; have D__law_tie := D__law_tie ns; have D__law_ties := D__law_ties ns; have D__law_few := D__law_few ns; pss_cons (ps_set (i := 1) sc_law.nd rfl (by first | exact Or.inl rfl | exact Or.inr rfl) (pe_lst (pa_cons (pv 0) (pa_cons pe_int (pa_cons pe_int pa_nil)))) rfl (Or.inl rfl))
    (fss_cons (fs_set (i := 2) rfl (by first | exact Or.inl rfl | exact Or.inr rfl) (fe_callRD D__law_few (hr.mono (by decide)) (pv 1) fa_nil) sc_law.nd (Or.inl rfl)) (fss_cons (fs_set (i := 3) rfl (by first | exact Or.inl rfl | exact Or.inr rfl) (fe_callRD D__law_ties (hr.mono (by decide)) (pv 1) (fa_cons (fe_var 2) (fa_cons fe_int fa_nil))) sc_law.nd (Or.inl rfl)) (fss_cons (fs_set (i := 4) rfl (by first | exact Or.inl rfl | exact Or.inr rfl) (fe_callRD D__law_tie (hr.mono (by decide)) (pv 1) (fa_cons (fe_var 2) fa_nil)) sc_law.nd (Or.inl rfl)) (fss_cons (fs_set (i := 5) rfl (by first | exact Or.inl rfl | exact Or.inr rfl) (fe_callRD D__law_taken (hr.mono (by decide)) (pv 1) (fa_cons (fe_op op_addD ok_add (fe_b1 FL.call_lenD ok_len T.n_len (by decide +kernel) (fe_var 3)) fe_int) fa_nil)) sc_law.nd (Or.inl rfl)) (fss_cons (fs_set (i := 6) rfl (by first | exact Or.inl rfl | exact Or.inr rfl) (fe_op op_addD ok_add (fe_op op_addD ok_add (fe_sl (fe_var 3) (fo_some (fe_var 5)) fo_none) (fe_list (fl_lst (fa_cons (fe_var 4) fa_nil)))) (fe_sl (fe_var 3) fo_none (fo_some (fe_var 5)))) sc_law.nd (Or.inl rfl)) (fss_cons (fs_set (i := 7) rfl (by first | exact Or.inl rfl | exact Or.inr rfl) (fe_make D_House (hr.mono (by decide)) (fa_cons (fe_t1 FL.call_lstD ok_list T.n_list (by decide +kernel) (fe_var 2)) (fa_cons (fe_t1 FL.call_lstD ok_list T.n_list (by decide +kernel) (fe_var 3)) fa_nil))) sc_law.nd (Or.inl rfl)) (fss_cons (fs_set (i := 8) rfl (by first | exact Or.inl rfl | exact Or.inr rfl) (fe_make D_House (hr.mono (by decide)) (fa_cons (fe_t1 FL.call_lstD ok_list T.n_list (by decide +kernel) (fe_var 2)) (fa_cons (fe_t1 FL.call_lstD ok_list T.n_list (by decide +kernel) (fe_var 6)) fa_nil))) sc_law.nd (Or.inl rfl)) (fss_cons (fs_set (i := 9) rfl (by first | exact Or.inl rfl | exact Or.inr rfl) (fe_make D_House (hr.mono (by decide)) (fa_cons (fe_t1 FL.call_lstD ok_list T.n_list (by decide +kernel) (fe_var 2)) (fa_cons (fe_list (fl_listRev (fe_var 6) T.n_list T.n_reversed)) fa_nil))) sc_law.nd (Or.inl rfl)) (fss_cons (fs_set (i := 10) rfl (by first | exact Or.inl rfl | exact Or.inr rfl) (fe_callRD D__law_room (hr.mono (by decide)) (pv 1) (fa_cons (fe_var 2) (fa_cons (fe_var 6) fa_nil))) sc_law.nd (Or.inl rfl)) (fss_cons (fs_if (ft_cmp (op_neDD (hu64 hr)) ok_ne (fe_list (fl_callD D_rooms (hr.mono (by decide)) (fa_cons (fe_var 8) fa_nil))) (fe_list (fl_lc (fi_seq (fe_list (fl_callD D_rooms (hr.mono (by decide)) (fa_cons (fe_var 7) fa_nil)))) (blkOk_by (own := [("_law_one", 12)]) (N := N_law) (sc := defScope s_law) (by decide +kernel)) rfl (gok_name 12) (fun _ _ _ _ _ => (pg_name (i := 12) sc_law.nd rfl (by first | exact Or.inl rfl | exact Or.inr rfl) (by first | exact Or.inl rfl | exact Or.inr rfl))) (fun _ _ _ _ _ => (fts_one (ft_val (fe_callD D__law_keeps (hr.mono (by decide)) (fa_cons (fe_var 4) (fa_cons (fe_var 12) fa_nil)))))) (fun _ _ _ _ _ => (fe_var 12)) sc_law.nd)) (nomark _)) (fss_one (fs_ret fe_bl)) fss_nil) (fss_cons (fs_if (ft_cmp (op_neDD (hu64 hr)) ok_ne (fe_list (fl_callD D_nexts (hr.mono (by decide)) (fa_cons (fe_var 8) (fa_cons (fe_var 10) fa_nil)))) (fe_list (fl_lc (fi_seq (fe_list (fl_callD D_nexts (hr.mono (by decide)) (fa_cons (fe_var 7) (fa_cons (fe_var 10) fa_nil))))) (blkOk_by (own := [("_law_one", 12)]) (N := N_law) (sc := defScope s_law) (by decide +kernel)) rfl (gok_name 12) (fun _ _ _ _ _ => (pg_name (i := 12) sc_law.nd rfl (by first | exact Or.inl rfl | exact Or.inr rfl) (by first | exact Or.inl rfl | exact Or.inr rfl))) (fun _ _ _ _ _ => (fts_one (ft_val (fe_callD D__law_keeps (hr.mono (by decide)) (fa_cons (fe_var 4) (fa_cons (fe_var 12) fa_nil)))))) (fun _ _ _ _ _ => (fe_var 12)) sc_law.nd)) (nomark _)) (fss_one (fs_ret fe_bl)) fss_nil) (fss_cons (fs_set (i := 11) rfl (by first | exact Or.inl rfl | exact Or.inr rfl) (fe_list (fl_callD D_reach (hr.mono (by decide)) (fa_cons (fe_var 7) (fa_cons (fe_var 10) fa_nil)))) sc_law.nd (Or.inl rfl)) (fss_cons (fs_if (ft_cmp (op_neDD (hu64 hr)) ok_ne (fe_list (fl_lc (fi_seq (fe_list (fl_callD D_reach (hr.mono (by decide)) (fa_cons (fe_var 8) (fa_cons (fe_var 10) fa_nil))))) (blkOk_by (own := [("_law_one", 12)]) (N := N_law) (sc := defScope s_law) (by decide +kernel)) rfl (gok_name 12) (fun _ _ _ _ _ => (pg_name (i := 12) sc_law.nd rfl (by first | exact Or.inl rfl | exact Or.inr rfl) (by first | exact Or.inl rfl | exact Or.inr rfl))) (fun _ _ _ _ _ => (fts_one (ft_cmp (op_ninDD (hu65 hr)) ok_nin (fe_var 12) (fe_var 11) (by with_unfolding_all rfl)))) (fun _ _ _ _ _ => (fe_var 12)) sc_law.nd)) (fe_list (fl_lst fa_nil)) (nomark _)) (fss_one (fs_ret fe_bl)) fss_nil) (fss_one (fs_ret (fe_and (fe_cmp (op_eqDD (hu64 hr)) ok_eq (fe_list (fl_callD D_rooms (hr.mono (by decide)) (fa_cons (fe_var 9) fa_nil))) (fe_list (fl_callD D_rooms (hr.mono (by decide)) (fa_cons (fe_var 8) fa_nil))) (nomark _)) (fe_one (fe_cmp (op_eqDD (hu64 hr)) ok_eq (fe_list (fl_callD D_nexts (hr.mono (by decide)) (fa_cons (fe_var 9) (fa_cons (fe_var 10) fa_nil)))) (fe_list (fl_callD D_nexts (hr.mono (by decide)) (fa_cons (fe_var 8) (fa_cons (fe_var 10) fa_nil)))) (nomark _))))))))))))))))))))
end
theorem all_mk {l : PySem.W.OpenLaw} {w : World} {K : PySem.W.Frag} {h : Heap} {mg : Str → Option Value} {fa : Addr} (X : K.In h) (G : h.Ns mainGlobals mg) (hfa : mg "law" = some (.ref fa))
    {od1 an1 : Option Addr} {sl1 : Array (Option Value)} {oc1 kV1 dc1 pm1 cd1 ct1 : Value} {f1 : Addr}
    {od2 an2 : Option Addr} {sl2 : Array (Option Value)} {oc2 kV2 dc2 pm2 cd2 ct2 : Value} {f2 : Addr}
    {od3 an3 : Option Addr} {sl3 : Array (Option Value)} {oc3 kV3 dc3 pm3 cd3 ct3 : Value} {f3 : Addr}
    {od4 an4 : Option Addr} {sl4 : Array (Option Value)} {oc4 kV4 dc4 pm4 cd4 ct4 : Value} {f4 : Addr}
    {od5 an5 : Option Addr} {sl5 : Array (Option Value)} {oc5 kV5 dc5 pm5 cd5 ct5 : Value} {f5 : Addr}
    {od6 an6 : Option Addr} {sl6 : Array (Option Value)} {oc6 kV6 dc6 pm6 cd6 ct6 : Value} {f6 : Addr}
    {od7 an7 : Option Addr} {sl7 : Array (Option Value)} {oc7 kV7 dc7 pm7 cd7 ct7 : Value} {f7 : Addr}
    {od8 an8 : Option Addr} {sl8 : Array (Option Value)} {oc8 kV8 dc8 pm8 cd8 ct8 : Value} {f8 : Addr}
    {od9 an9 : Option Addr} {sl9 : Array (Option Value)} {oc9 kV9 dc9 pm9 cd9 ct9 : Value} {f9 : Addr}
    {od10 an10 : Option Addr} {sl10 : Array (Option Value)} {oc10 kV10 dc10 pm10 cd10 ct10 : Value} {f10 : Addr}
    {od11 an11 : Option Addr} {sl11 : Array (Option Value)} {oc11 kV11 dc11 pm11 cd11 ct11 : Value} {f11 : Addr}
    {od12 an12 : Option Addr} {sl12 : Array (Option Value)} {oc12 kV12 dc12 pm12 cd12 ct12 : Value} {f12 : Addr}
    {od13 an13 : Option Addr} {sl13 : Array (Option Value)} {oc13 kV13 dc13 pm13 cd13 ct13 : Value} {f13 : Addr}
    {od14 an14 : Option Addr} {sl14 : Array (Option Value)} {oc14 kV14 dc14 pm14 cd14 ct14 : Value} {f14 : Addr}
    {od15 an15 : Option Addr} {sl15 : Array (Option Value)} {oc15 kV15 dc15 pm15 cd15 ct15 : Value} {f15 : Addr}
    {od16 an16 : Option Addr} {sl16 : Array (Option Value)} {oc16 kV16 dc16 pm16 cd16 ct16 : Value} {f16 : Addr}
    {od17 an17 : Option Addr} {sl17 : Array (Option Value)} {oc17 kV17 dc17 pm17 cd17 ct17 : Value} {f17 : Addr}
    {od18 an18 : Option Addr} {sl18 : Array (Option Value)} {oc18 kV18 dc18 pm18 cd18 ct18 : Value} {f18 : Addr}
    {od19 an19 : Option Addr} {sl19 : Array (Option Value)} {oc19 kV19 dc19 pm19 cd19 ct19 : Value} {f19 : Addr}
    {od20 an20 : Option Addr} {sl20 : Array (Option Value)} {oc20 kV20 dc20 pm20 cd20 ct20 : Value} {f20 : Addr}
    {od21 an21 : Option Addr} {sl21 : Array (Option Value)} {oc21 kV21 dc21 pm21 cd21 ct21 : Value} {f21 : Addr}
    {od22 an22 : Option Addr} {sl22 : Array (Option Value)} {oc22 kV22 dc22 pm22 cd22 ct22 : Value} {f22 : Addr}
    {od23 an23 : Option Addr} {sl23 : Array (Option Value)} {oc23 kV23 dc23 pm23 cd23 ct23 : Value} {f23 : Addr}
    {od24 an24 : Option Addr} {sl24 : Array (Option Value)} {oc24 kV24 dc24 pm24 cd24 ct24 : Value} {f24 : Addr}
    {od25 an25 : Option Addr} {sl25 : Array (Option Value)} {oc25 kV25 dc25 pm25 cd25 ct25 : Value} {f25 : Addr}
    {od26 an26 : Option Addr} {sl26 : Array (Option Value)} {oc26 kV26 dc26 pm26 cd26 ct26 : Value} {f26 : Addr}
    {od27 an27 : Option Addr} {sl27 : Array (Option Value)} {oc27 kV27 dc27 pm27 cd27 ct27 : Value} {f27 : Addr}
    {od28 an28 : Option Addr} {sl28 : Array (Option Value)} {oc28 kV28 dc28 pm28 cd28 ct28 : Value} {f28 : Addr}
    {od29 an29 : Option Addr} {sl29 : Array (Option Value)} {oc29 kV29 dc29 pm29 cd29 ct29 : Value} {f29 : Addr}
    {od30 an30 : Option Addr} {sl30 : Array (Option Value)} {oc30 kV30 dc30 pm30 cd30 ct30 : Value} {f30 : Addr}
    {od31 an31 : Option Addr} {sl31 : Array (Option Value)} {oc31 kV31 dc31 pm31 cd31 ct31 : Value} {f31 : Addr}
    {od32 an32 : Option Addr} {sl32 : Array (Option Value)} {oc32 kV32 dc32 pm32 cd32 ct32 : Value} {f32 : Addr}
    {od33 an33 : Option Addr} {sl33 : Array (Option Value)} {oc33 kV33 dc33 pm33 cd33 ct33 : Value} {f33 : Addr}
    {od34 an34 : Option Addr} {sl34 : Array (Option Value)} {oc34 kV34 dc34 pm34 cd34 ct34 : Value} {f34 : Addr}
    {od35 an35 : Option Addr} {sl35 : Array (Option Value)} {oc35 kV35 dc35 pm35 cd35 ct35 : Value} {f35 : Addr}
    {C : Addr}
    {od36 an36 : Option Addr} {sl36 : Array (Option Value)} {oc36 kV36 dc36 pm36 cd36 ct36 : Value} {f36 : Addr}
    {od37 an37 : Option Addr} {sl37 : Array (Option Value)} {oc37 kV37 dc37 pm37 cd37 ct37 : Value} {f37 : Addr}
    {od38 an38 : Option Addr} {sl38 : Array (Option Value)} {oc38 kV38 dc38 pm38 cd38 ct38 : Value} {f38 : Addr}
    {a_TRENDS n_TRENDS : Nat} {e_TRENDS : Array Value} {o_TRENDS : Option Addr} {s_TRENDS : Array (Option Value)}
    {t_LETTERS : Tok}
    {t_LONGEST_NAME : Tok}
    {t_MOST_THINGS : Tok}
    {t_MOST_MARKS : Tok}
    {t_MOST_TIES : Tok}
    {t_LOWEST_MARK : Tok}
    {t_HIGHEST_MARK : Tok}
    {t_LEAST_GAP : Tok}
    {a_THINGS_NAMED n_THINGS_NAMED : Nat} {e_THINGS_NAMED : Array DictEntry}
    {a_MARK_WORDS n_MARK_WORDS : Nat} {e_MARK_WORDS : Array Value} {o_MARK_WORDS : Option Addr} {s_MARK_WORDS : Array (Option Value)}
    {C0 C1 CT : Addr}
    (a1 : PySem.W.nsIn K mainGlobals "_law_taken" = some (some (.ref f1)))
    (l1 : K.lookup f1 = some ⟨oc1, od1, .func (PySem.W.fnOf "_law_taken" "_law_taken" (defArgs s__law_taken) (defBody s__law_taken) (defScope s__law_taken) .none kV1 dc1 pm1 an1 cd1 ct1), sl1⟩)
    (c1 : PySem.W.codeIn K cd1 "_law_taken" = true)
    (k1 : PySem.W.keepIn K (.ref f1) = true)
    (a2 : PySem.W.nsIn K mainGlobals "_law_marks" = some (some (.ref f2)))
    (l2 : K.lookup f2 = some ⟨oc2, od2, .func (PySem.W.fnOf "_law_marks" "_law_marks" (defArgs s__law_marks) (defBody s__law_marks) (defScope s__law_marks) .none kV2 dc2 pm2 an2 cd2 ct2), sl2⟩)
    (c2 : PySem.W.codeIn K cd2 "_law_marks" = true)
    (k2 : PySem.W.keepIn K (.ref f2) = true)
    (a3 : PySem.W.nsIn K mainGlobals "_law_things" = some (some (.ref f3)))
    (l3 : K.lookup f3 = some ⟨oc3, od3, .func (PySem.W.fnOf "_law_things" "_law_things" (defArgs s__law_things) (defBody s__law_things) (defScope s__law_things) .none kV3 dc3 pm3 an3 cd3 ct3), sl3⟩)
    (c3 : PySem.W.codeIn K cd3 "_law_things" = true)
    (k3 : PySem.W.keepIn K (.ref f3) = true)
    (a4 : PySem.W.nsIn K mainGlobals "_law_few" = some (some (.ref f4)))
    (l4 : K.lookup f4 = some ⟨oc4, od4, .func (PySem.W.fnOf "_law_few" "_law_few" (defArgs s__law_few) (defBody s__law_few) (defScope s__law_few) .none kV4 dc4 pm4 an4 cd4 ct4), sl4⟩)
    (c4 : PySem.W.codeIn K cd4 "_law_few" = true)
    (k4 : PySem.W.keepIn K (.ref f4) = true)
    (a5 : PySem.W.nsIn K mainGlobals "_law_tie" = some (some (.ref f5)))
    (l5 : K.lookup f5 = some ⟨oc5, od5, .func (PySem.W.fnOf "_law_tie" "_law_tie" (defArgs s__law_tie) (defBody s__law_tie) (defScope s__law_tie) .none kV5 dc5 pm5 an5 cd5 ct5), sl5⟩)
    (c5 : PySem.W.codeIn K cd5 "_law_tie" = true)
    (k5 : PySem.W.keepIn K (.ref f5) = true)
    (a6 : PySem.W.nsIn K mainGlobals "_law_ties" = some (some (.ref f6)))
    (l6 : K.lookup f6 = some ⟨oc6, od6, .func (PySem.W.fnOf "_law_ties" "_law_ties" (defArgs s__law_ties) (defBody s__law_ties) (defScope s__law_ties) .none kV6 dc6 pm6 an6 cd6 ct6), sl6⟩)
    (c6 : PySem.W.codeIn K cd6 "_law_ties" = true)
    (k6 : PySem.W.keepIn K (.ref f6) = true)
    (a7 : PySem.W.nsIn K mainGlobals "_law_keeps" = some (some (.ref f7)))
    (l7 : K.lookup f7 = some ⟨oc7, od7, .func (PySem.W.fnOf "_law_keeps" "_law_keeps" (defArgs s__law_keeps) (defBody s__law_keeps) (defScope s__law_keeps) .none kV7 dc7 pm7 an7 cd7 ct7), sl7⟩)
    (c7 : PySem.W.codeIn K cd7 "_law_keeps" = true)
    (k7 : PySem.W.keepIn K (.ref f7) = true)
    (a8 : PySem.W.nsIn K mainGlobals "_law_first" = some (some (.ref f8)))
    (l8 : K.lookup f8 = some ⟨oc8, od8, .func (PySem.W.fnOf "_law_first" "_law_first" (defArgs s__law_first) (defBody s__law_first) (defScope s__law_first) .none kV8 dc8 pm8 an8 cd8 ct8), sl8⟩)
    (c8 : PySem.W.codeIn K cd8 "_law_first" = true)
    (k8 : PySem.W.keepIn K (.ref f8) = true)
    (a9 : PySem.W.nsIn K mainGlobals "_law_spots" = some (some (.ref f9)))
    (l9 : K.lookup f9 = some ⟨oc9, od9, .func (PySem.W.fnOf "_law_spots" "_law_spots" (defArgs s__law_spots) (defBody s__law_spots) (defScope s__law_spots) .none kV9 dc9 pm9 an9 cd9 ct9), sl9⟩)
    (c9 : PySem.W.codeIn K cd9 "_law_spots" = true)
    (k9 : PySem.W.keepIn K (.ref f9) = true)
    (a10 : PySem.W.nsIn K mainGlobals "_law_rooms" = some (some (.ref f10)))
    (l10 : K.lookup f10 = some ⟨oc10, od10, .func (PySem.W.fnOf "_law_rooms" "_law_rooms" (defArgs s__law_rooms) (defBody s__law_rooms) (defScope s__law_rooms) .none kV10 dc10 pm10 an10 cd10 ct10), sl10⟩)
    (c10 : PySem.W.codeIn K cd10 "_law_rooms" = true)
    (k10 : PySem.W.keepIn K (.ref f10) = true)
    (a11 : PySem.W.nsIn K mainGlobals "_law_any" = some (some (.ref f11)))
    (l11 : K.lookup f11 = some ⟨oc11, od11, .func (PySem.W.fnOf "_law_any" "_law_any" (defArgs s__law_any) (defBody s__law_any) (defScope s__law_any) .none kV11 dc11 pm11 an11 cd11 ct11), sl11⟩)
    (c11 : PySem.W.codeIn K cd11 "_law_any" = true)
    (k11 : PySem.W.keepIn K (.ref f11) = true)
    (a12 : PySem.W.nsIn K mainGlobals "_law_room" = some (some (.ref f12)))
    (l12 : K.lookup f12 = some ⟨oc12, od12, .func (PySem.W.fnOf "_law_room" "_law_room" (defArgs s__law_room) (defBody s__law_room) (defScope s__law_room) .none kV12 dc12 pm12 an12 cd12 ct12), sl12⟩)
    (c12 : PySem.W.codeIn K cd12 "_law_room" = true)
    (k12 : PySem.W.keepIn K (.ref f12) = true)
    (a13 : PySem.W.nsIn K mainGlobals "is_mark" = some (some (.ref f13)))
    (l13 : K.lookup f13 = some ⟨oc13, od13, .func (PySem.W.fnOf "is_mark" "is_mark" (defArgs s_is_mark) (defBody s_is_mark) (defScope s_is_mark) .none kV13 dc13 pm13 an13 cd13 ct13), sl13⟩)
    (c13 : PySem.W.codeIn K cd13 "is_mark" = true)
    (k13 : PySem.W.keepIn K (.ref f13) = true)
    (a14 : PySem.W.nsIn K mainGlobals "states" = some (some (.ref f14)))
    (l14 : K.lookup f14 = some ⟨oc14, od14, .func (PySem.W.fnOf "states" "states" (defArgs s_states) (defBody s_states) (defScope s_states) .none kV14 dc14 pm14 an14 cd14 ct14), sl14⟩)
    (c14 : PySem.W.codeIn K cd14 "states" = true)
    (k14 : PySem.W.keepIn K (.ref f14) = true)
    (a15 : PySem.W.nsIn K mainGlobals "check_room" = some (some (.ref f15)))
    (l15 : K.lookup f15 = some ⟨oc15, od15, .func (PySem.W.fnOf "check_room" "check_room" (defArgs s_check_room) (defBody s_check_room) (defScope s_check_room) .none kV15 dc15 pm15 an15 cd15 ct15), sl15⟩)
    (c15 : PySem.W.codeIn K cd15 "check_room" = true)
    (k15 : PySem.W.keepIn K (.ref f15) = true)
    (a16 : PySem.W.nsIn K mainGlobals "ways_from_mark" = some (some (.ref f16)))
    (l16 : K.lookup f16 = some ⟨oc16, od16, .func (PySem.W.fnOf "ways_from_mark" "ways_from_mark" (defArgs s_ways_from_mark) (defBody s_ways_from_mark) (defScope s_ways_from_mark) .none kV16 dc16 pm16 an16 cd16 ct16), sl16⟩)
    (c16 : PySem.W.codeIn K cd16 "ways_from_mark" = true)
    (k16 : PySem.W.keepIn K (.ref f16) = true)
    (a17 : PySem.W.nsIn K mainGlobals "ways_on" = some (some (.ref f17)))
    (l17 : K.lookup f17 = some ⟨oc17, od17, .func (PySem.W.fnOf "ways_on" "ways_on" (defArgs s_ways_on) (defBody s_ways_on) (defScope s_ways_on) .none kV17 dc17 pm17 an17 cd17 ct17), sl17⟩)
    (c17 : PySem.W.codeIn K cd17 "ways_on" = true)
    (k17 : PySem.W.keepIn K (.ref f17) = true)
    (a18 : PySem.W.nsIn K mainGlobals "one_of_each" = some (some (.ref f18)))
    (l18 : K.lookup f18 = some ⟨oc18, od18, .func (PySem.W.fnOf "one_of_each" "one_of_each" (defArgs s_one_of_each) (defBody s_one_of_each) (defScope s_one_of_each) .none kV18 dc18 pm18 an18 cd18 ct18), sl18⟩)
    (c18 : PySem.W.codeIn K cd18 "one_of_each" = true)
    (k18 : PySem.W.keepIn K (.ref f18) = true)
    (a19 : PySem.W.nsIn K mainGlobals "sign" = some (some (.ref f19)))
    (l19 : K.lookup f19 = some ⟨oc19, od19, .func (PySem.W.fnOf "sign" "sign" (defArgs s_sign) (defBody s_sign) (defScope s_sign) .none kV19 dc19 pm19 an19 cd19 ct19), sl19⟩)
    (c19 : PySem.W.codeIn K cd19 "sign" = true)
    (k19 : PySem.W.keepIn K (.ref f19) = true)
    (a20 : PySem.W.nsIn K mainGlobals "may_be_sum" = some (some (.ref f20)))
    (l20 : K.lookup f20 = some ⟨oc20, od20, .func (PySem.W.fnOf "may_be_sum" "may_be_sum" (defArgs s_may_be_sum) (defBody s_may_be_sum) (defScope s_may_be_sum) .none kV20 dc20 pm20 an20 cd20 ct20), sl20⟩)
    (c20 : PySem.W.codeIn K cd20 "may_be_sum" = true)
    (k20 : PySem.W.keepIn K (.ref f20) = true)
    (a21 : PySem.W.nsIn K mainGlobals "mark_place" = some (some (.ref f21)))
    (l21 : K.lookup f21 = some ⟨oc21, od21, .func (PySem.W.fnOf "mark_place" "mark_place" (defArgs s_mark_place) (defBody s_mark_place) (defScope s_mark_place) .none kV21 dc21 pm21 an21 cd21 ct21), sl21⟩)
    (c21 : PySem.W.codeIn K cd21 "mark_place" = true)
    (k21 : PySem.W.keepIn K (.ref f21) = true)
    (a22 : PySem.W.nsIn K mainGlobals "keeps" = some (some (.ref f22)))
    (l22 : K.lookup f22 = some ⟨oc22, od22, .func (PySem.W.fnOf "keeps" "keeps" (defArgs s_keeps) (defBody s_keeps) (defScope s_keeps) .none kV22 dc22 pm22 an22 cd22 ct22), sl22⟩)
    (c22 : PySem.W.codeIn K cd22 "keeps" = true)
    (k22 : PySem.W.keepIn K (.ref f22) = true)
    (a23 : PySem.W.nsIn K mainGlobals "first_broken" = some (some (.ref f23)))
    (l23 : K.lookup f23 = some ⟨oc23, od23, .func (PySem.W.fnOf "first_broken" "first_broken" (defArgs s_first_broken) (defBody s_first_broken) (defScope s_first_broken) .none kV23 dc23 pm23 an23 cd23 ct23), sl23⟩)
    (c23 : PySem.W.codeIn K cd23 "first_broken" = true)
    (k23 : PySem.W.keepIn K (.ref f23) = true)
    (a24 : PySem.W.nsIn K mainGlobals "nexts" = some (some (.ref f24)))
    (l24 : K.lookup f24 = some ⟨oc24, od24, .func (PySem.W.fnOf "nexts" "nexts" (defArgs s_nexts) (defBody s_nexts) (defScope s_nexts) .none kV24 dc24 pm24 an24 cd24 ct24), sl24⟩)
    (c24 : PySem.W.codeIn K cd24 "nexts" = true)
    (k24 : PySem.W.keepIn K (.ref f24) = true)
    (a25 : PySem.W.nsIn K mainGlobals "nexts_of_each" = some (some (.ref f25)))
    (l25 : K.lookup f25 = some ⟨oc25, od25, .func (PySem.W.fnOf "nexts_of_each" "nexts_of_each" (defArgs s_nexts_of_each) (defBody s_nexts_of_each) (defScope s_nexts_of_each) .none kV25 dc25 pm25 an25 cd25 ct25), sl25⟩)
    (c25 : PySem.W.codeIn K cd25 "nexts_of_each" = true)
    (k25 : PySem.W.keepIn K (.ref f25) = true)
    (a26 : PySem.W.nsIn K mainGlobals "reach" = some (some (.ref f26)))
    (l26 : K.lookup f26 = some ⟨oc26, od26, .func (PySem.W.fnOf "reach" "reach" (defArgs s_reach) (defBody s_reach) (defScope s_reach) .none kV26 dc26 pm26 an26 cd26 ct26), sl26⟩)
    (c26 : PySem.W.codeIn K cd26 "reach" = true)
    (k26 : PySem.W.keepIn K (.ref f26) = true)
    (a27 : PySem.W.nsIn K mainGlobals "all_rooms" = some (some (.ref f27)))
    (l27 : K.lookup f27 = some ⟨oc27, od27, .func (PySem.W.fnOf "all_rooms" "all_rooms" (defArgs s_all_rooms) (defBody s_all_rooms) (defScope s_all_rooms) .none kV27 dc27 pm27 an27 cd27 ct27), sl27⟩)
    (c27 : PySem.W.codeIn K cd27 "all_rooms" = true)
    (k27 : PySem.W.keepIn K (.ref f27) = true)
    (a28 : PySem.W.nsIn K mainGlobals "rooms" = some (some (.ref f28)))
    (l28 : K.lookup f28 = some ⟨oc28, od28, .func (PySem.W.fnOf "rooms" "rooms" (defArgs s_rooms) (defBody s_rooms) (defScope s_rooms) .none kV28 dc28 pm28 an28 cd28 ct28), sl28⟩)
    (c28 : PySem.W.codeIn K cd28 "rooms" = true)
    (k28 : PySem.W.keepIn K (.ref f28) = true)
    (a29 : PySem.W.nsIn K mainGlobals "is_name" = some (some (.ref f29)))
    (l29 : K.lookup f29 = some ⟨oc29, od29, .func (PySem.W.fnOf "is_name" "is_name" (defArgs s_is_name) (defBody s_is_name) (defScope s_is_name) .none kV29 dc29 pm29 an29 cd29 ct29), sl29⟩)
    (c29 : PySem.W.codeIn K cd29 "is_name" = true)
    (k29 : PySem.W.keepIn K (.ref f29) = true)
    (a30 : PySem.W.nsIn K mainGlobals "are_marks" = some (some (.ref f30)))
    (l30 : K.lookup f30 = some ⟨oc30, od30, .func (PySem.W.fnOf "are_marks" "are_marks" (defArgs s_are_marks) (defBody s_are_marks) (defScope s_are_marks) .none kV30 dc30 pm30 an30 cd30 ct30), sl30⟩)
    (c30 : PySem.W.codeIn K cd30 "are_marks" = true)
    (k30 : PySem.W.keepIn K (.ref f30) = true)
    (a31 : PySem.W.nsIn K mainGlobals "check_things" = some (some (.ref f31)))
    (l31 : K.lookup f31 = some ⟨oc31, od31, .func (PySem.W.fnOf "check_things" "check_things" (defArgs s_check_things) (defBody s_check_things) (defScope s_check_things) .none kV31 dc31 pm31 an31 cd31 ct31), sl31⟩)
    (c31 : PySem.W.codeIn K cd31 "check_things" = true)
    (k31 : PySem.W.keepIn K (.ref f31) = true)
    (a32 : PySem.W.nsIn K mainGlobals "is_number_below" = some (some (.ref f32)))
    (l32 : K.lookup f32 = some ⟨oc32, od32, .func (PySem.W.fnOf "is_number_below" "is_number_below" (defArgs s_is_number_below) (defBody s_is_number_below) (defScope s_is_number_below) .none kV32 dc32 pm32 an32 cd32 ct32), sl32⟩)
    (c32 : PySem.W.codeIn K cd32 "is_number_below" = true)
    (k32 : PySem.W.keepIn K (.ref f32) = true)
    (a33 : PySem.W.nsIn K mainGlobals "is_tie" = some (some (.ref f33)))
    (l33 : K.lookup f33 = some ⟨oc33, od33, .func (PySem.W.fnOf "is_tie" "is_tie" (defArgs s_is_tie) (defBody s_is_tie) (defScope s_is_tie) .none kV33 dc33 pm33 an33 cd33 ct33), sl33⟩)
    (c33 : PySem.W.codeIn K cd33 "is_tie" = true)
    (k33 : PySem.W.keepIn K (.ref f33) = true)
    (a34 : PySem.W.nsIn K mainGlobals "check_ties" = some (some (.ref f34)))
    (l34 : K.lookup f34 = some ⟨oc34, od34, .func (PySem.W.fnOf "check_ties" "check_ties" (defArgs s_check_ties) (defBody s_check_ties) (defScope s_check_ties) .none kV34 dc34 pm34 an34 cd34 ct34), sl34⟩)
    (c34 : PySem.W.codeIn K cd34 "check_ties" = true)
    (k34 : PySem.W.keepIn K (.ref f34) = true)
    (a35 : PySem.W.nsIn K mainGlobals "law" = some (some (.ref f35)))
    (l35 : K.lookup f35 = some ⟨oc35, od35, .func (PySem.W.fnOf "law" "law" (defArgs s_law) (defBody s_law) (defScope s_law) .none kV35 dc35 pm35 an35 cd35 ct35), sl35⟩)
    (c35 : PySem.W.codeIn K cd35 "law" = true)
    (k35 : PySem.W.keepIn K (.ref f35) = true)
    (aC : PySem.W.nsIn K mainGlobals "House" = some (some (.ref C)))
    (m36 : PySem.W.findIn K (.ref C) "__init__" = some (some (.ref f36)))
    (i36 : PySem.W.isFn K (.ref f36) = true)
    (l36 : K.lookup f36 = some ⟨oc36, od36, .func (PySem.W.fnOf "__init__" "House.__init__" (defArgs s_House_init) (defBody s_House_init) (defScope s_House_init) .none kV36 dc36 pm36 an36 cd36 ct36), sl36⟩)
    (c36 : PySem.W.codeIn K cd36 "House.__init__" = true)
    (k36 : PySem.W.keepIn K (.ref f36) = true)
    (m37 : PySem.W.findIn K (.ref C) "things" = some (some (.ref f37)))
    (i37 : PySem.W.isFn K (.ref f37) = true)
    (l37 : K.lookup f37 = some ⟨oc37, od37, .func (PySem.W.fnOf "things" "House.things" (defArgs s_House_things) (defBody s_House_things) (defScope s_House_things) .none kV37 dc37 pm37 an37 cd37 ct37), sl37⟩)
    (c37 : PySem.W.codeIn K cd37 "House.things" = true)
    (k37 : PySem.W.keepIn K (.ref f37) = true)
    (m38 : PySem.W.findIn K (.ref C) "ties" = some (some (.ref f38)))
    (i38 : PySem.W.isFn K (.ref f38) = true)
    (l38 : K.lookup f38 = some ⟨oc38, od38, .func (PySem.W.fnOf "ties" "House.ties" (defArgs s_House_ties) (defBody s_House_ties) (defScope s_House_ties) .none kV38 dc38 pm38 an38 cd38 ct38), sl38⟩)
    (c38 : PySem.W.codeIn K cd38 "House.ties" = true)
    (k38 : PySem.W.keepIn K (.ref f38) = true)
    (pg : PySem.W.plainGet K C Str.empty = true)
    (hd : PySem.W.hasDictIn K C = true)
    (po : PySem.W.plainOver K C = true)
    (sa : PySem.W.findIn K (.ref C) "__setattr__" = some (some (.builtin "object.__setattr__")))
    (mk : PySem.W.makesIn K C = true)
    (kc : PySem.W.keepIn K (.ref C) = true)
    (nT : PySem.W.findIn K (.ref C) "_things" = some none)
    (nI : PySem.W.findIn K (.ref C) "_ties" = some none)
    (z_ValueError : PySem.W.nsIn K mainGlobals "ValueError" = some none)
    (z_len : PySem.W.nsIn K mainGlobals "len" = some none)
    (z_tuple : PySem.W.nsIn K mainGlobals "tuple" = some none)
    (z_list : PySem.W.nsIn K mainGlobals "list" = some none)
    (z_int : PySem.W.nsIn K mainGlobals "int" = some none)
    (z_all : PySem.W.nsIn K mainGlobals "all" = some none)
    (z_range : PySem.W.nsIn K mainGlobals "range" = some none)
    (z_enumerate : PySem.W.nsIn K mainGlobals "enumerate" = some none)
    (z_zip : PySem.W.nsIn K mainGlobals "zip" = some none)
    (z_isinstance : PySem.W.nsIn K mainGlobals "isinstance" = some none)
    (z_sorted : PySem.W.nsIn K mainGlobals "sorted" = some none)
    (z_set : PySem.W.nsIn K mainGlobals "set" = some none)
    (z_reversed : PySem.W.nsIn K mainGlobals "reversed" = some none)
    (g_TRENDS : PySem.W.nsIn K mainGlobals "TRENDS" = some (some (.ref a_TRENDS)))
    (h_TRENDS : K.lookup a_TRENDS = some ⟨.type "tuple", o_TRENDS, .seq e_TRENDS n_TRENDS, s_TRENDS⟩)
    (v_TRENDS : Vals [(.int (-1)), (.int 0), (.int 1)] e_TRENDS.toList)
    (w_TRENDS : e_TRENDS.size ≤ sizeLine)
    (g_LETTERS : PySem.W.nsIn K mainGlobals "LETTERS" = some (some (.str (PySem.Str.ofString "abcdefghijklmnopqrstuvwxyz") t_LETTERS)))
    (g_LONGEST_NAME : PySem.W.nsIn K mainGlobals "LONGEST_NAME" = some (some (.int 8 t_LONGEST_NAME)))
    (g_MOST_THINGS : PySem.W.nsIn K mainGlobals "MOST_THINGS" = some (some (.int 3 t_MOST_THINGS)))
    (g_MOST_MARKS : PySem.W.nsIn K mainGlobals "MOST_MARKS" = some (some (.int 3 t_MOST_MARKS)))
    (g_MOST_TIES : PySem.W.nsIn K mainGlobals "MOST_TIES" = some (some (.int 6 t_MOST_TIES)))
    (g_LOWEST_MARK : PySem.W.nsIn K mainGlobals "LOWEST_MARK" = some (some (.int (-99) t_LOWEST_MARK)))
    (g_HIGHEST_MARK : PySem.W.nsIn K mainGlobals "HIGHEST_MARK" = some (some (.int 99 t_HIGHEST_MARK)))
    (g_LEAST_GAP : PySem.W.nsIn K mainGlobals "LEAST_GAP" = some (some (.int 2 t_LEAST_GAP)))
    (g_THINGS_NAMED : PySem.W.nsIn K mainGlobals "THINGS_NAMED" = some (some (.ref a_THINGS_NAMED)))
    (h_THINGS_NAMED : K.lookup a_THINGS_NAMED = some ⟨.type "dict", none, .dict e_THINGS_NAMED n_THINGS_NAMED, #[]⟩)
    (e_THINGS_NAMED_ : EnL w.params e_THINGS_NAMED.toList [(PySem.Str.ofString "with", 2), (PySem.Str.ofString "against", 2), (PySem.Str.ofString "sum", 3), (PySem.Str.ofString "product", 3), (PySem.Str.ofString "rate", 2), (PySem.Str.ofString "under", 1), (PySem.Str.ofString "over", 1)])
    (s_THINGS_NAMED : (a_THINGS_NAMED == sysModules) = false)
    (g_MARK_WORDS : PySem.W.nsIn K mainGlobals "MARK_WORDS" = some (some (.ref a_MARK_WORDS)))
    (h_MARK_WORDS : K.lookup a_MARK_WORDS = some ⟨.type "tuple", o_MARK_WORDS, .seq e_MARK_WORDS n_MARK_WORDS, s_MARK_WORDS⟩)
    (v_MARK_WORDS : Vals [(.str (PySem.Str.ofString "rate")), (.str (PySem.Str.ofString "under")), (.str (PySem.Str.ofString "over"))] e_MARK_WORDS.toList)
    (w_MARK_WORDS : e_MARK_WORDS.size ≤ sizeLine)
    (g0 : PySem.W.nsIn K mainGlobals "BadHouse" = some (some (.ref C0)))
    (g1 : PySem.W.nsIn K mainGlobals "BadRoom" = some (some (.ref C1)))
    (gT : PySem.W.nsIn K mainGlobals "TrendError" = some (some (.ref CT)))
    (xe : PySem.W.excIn K C1 [.type "ValueError", .type "Exception", .type "BaseException", .type "object"] "ValueError.__new__" = true)
    (xk : PySem.W.keepIn K (.ref C1) = true)
    (y3 : PySem.W.subIn K (.ref C1) (.type "BaseException") = some true)
    (xt : PySem.W.typeIn K (.ref C1) = some (.type "type")) :
    ∃ fd : FuncData, (∀ (s : Shared) (v : Value), BindsTo s fd ⟨[v], []⟩ [("_law_script", v)]) ∧ ∀ base : Heap, K.In base → base.Ns mainGlobals mg → FnOk l.prog w K mg base CX0 8 fa fd ["_law_script"] (spT K F_law) := by
  have e := hfa.symm.trans (PySem.W.mg_of X G a35)
  cases e
  refine ⟨PySem.W.fnOf "law" "law" (defArgs s_law) (defBody s_law) (defScope s_law) .none kV35 dc35 pm35 an35 cd35 ct35, fun s v => .of_eq rfl, fun base _ _ => ?_⟩
  have T : Tx K w mg C := ⟨⟨pg, hd, po, sa⟩, nT, nI, PySem.W.mg_none_of X G z_ValueError, PySem.W.mg_none_of X G z_len, PySem.W.mg_none_of X G z_tuple, PySem.W.mg_none_of X G z_list, PySem.W.mg_none_of X G z_int, PySem.W.mg_none_of X G z_all, PySem.W.mg_none_of X G z_range, PySem.W.mg_none_of X G z_enumerate, PySem.W.mg_none_of X G z_zip, PySem.W.mg_none_of X G z_isinstance, PySem.W.mg_none_of X G z_sorted, PySem.W.mg_none_of X G z_set, PySem.W.mg_none_of X G z_reversed, ⟨a_TRENDS, PySem.W.mg_of X G g_TRENDS, fun H => dr_ktup h_TRENDS v_TRENDS w_TRENDS (by repeat constructor)⟩, ⟨t_LETTERS, PySem.W.mg_of X G g_LETTERS⟩, ⟨t_LONGEST_NAME, PySem.W.mg_of X G g_LONGEST_NAME⟩, ⟨t_MOST_THINGS, PySem.W.mg_of X G g_MOST_THINGS⟩, ⟨t_MOST_MARKS, PySem.W.mg_of X G g_MOST_MARKS⟩, ⟨t_MOST_TIES, PySem.W.mg_of X G g_MOST_TIES⟩, ⟨t_LOWEST_MARK, PySem.W.mg_of X G g_LOWEST_MARK⟩, ⟨t_HIGHEST_MARK, PySem.W.mg_of X G g_HIGHEST_MARK⟩, ⟨t_LEAST_GAP, PySem.W.mg_of X G g_LEAST_GAP⟩, gd_mk (PySem.W.mg_of X G g_THINGS_NAMED) h_THINGS_NAMED e_THINGS_NAMED_ s_THINGS_NAMED, ⟨a_MARK_WORDS, PySem.W.mg_of X G g_MARK_WORDS, fun H => dr_ktup h_MARK_WORDS v_MARK_WORDS w_MARK_WORDS (by repeat constructor)⟩⟩
  have TX : Tex K mg (fun n => match n with | 0 => C0 | _ => C1) CT := ⟨⟨⟨_, _, _, _, PySem.F.excBase_ValueError, xe⟩, PySem.W.mg_of X G g1, xk, y3, xt⟩⟩
  have r1 : Hr K mg "_law_taken" s__law_taken := ⟨_, _, fun_mk (st := s__law_taken) l1 c1 k1, PySem.W.mg_of X G a1⟩
  have r2 : Hr K mg "_law_marks" s__law_marks := ⟨_, _, fun_mk (st := s__law_marks) l2 c2 k2, PySem.W.mg_of X G a2⟩
  have r3 : Hr K mg "_law_things" s__law_things := ⟨_, _, fun_mk (st := s__law_things) l3 c3 k3, PySem.W.mg_of X G a3⟩
  have r4 : Hr K mg "_law_few" s__law_few := ⟨_, _, fun_mk (st := s__law_few) l4 c4 k4, PySem.W.mg_of X G a4⟩
  have r5 : Hr K mg "_law_tie" s__law_tie := ⟨_, _, fun_mk (st := s__law_tie) l5 c5 k5, PySem.W.mg_of X G a5⟩
  have r6 : Hr K mg "_law_ties" s__law_ties := ⟨_, _, fun_mk (st := s__law_ties) l6 c6 k6, PySem.W.mg_of X G a6⟩
  have r7 : Hr K mg "_law_keeps" s__law_keeps := ⟨_, _, fun_mk (st := s__law_keeps) l7 c7 k7, PySem.W.mg_of X G a7⟩
  have r8 : Hr K mg "_law_first" s__law_first := ⟨_, _, fun_mk (st := s__law_first) l8 c8 k8, PySem.W.mg_of X G a8⟩
  have r9 : Hr K mg "_law_spots" s__law_spots := ⟨_, _, fun_mk (st := s__law_spots) l9 c9 k9, PySem.W.mg_of X G a9⟩
  have r10 : Hr K mg "_law_rooms" s__law_rooms := ⟨_, _, fun_mk (st := s__law_rooms) l10 c10 k10, PySem.W.mg_of X G a10⟩
  have r11 : Hr K mg "_law_any" s__law_any := ⟨_, _, fun_mk (st := s__law_any) l11 c11 k11, PySem.W.mg_of X G a11⟩
  have r12 : Hr K mg "_law_room" s__law_room := ⟨_, _, fun_mk (st := s__law_room) l12 c12 k12, PySem.W.mg_of X G a12⟩
  have r13 : Hr K mg "is_mark" s_is_mark := ⟨_, _, fun_mk (st := s_is_mark) l13 c13 k13, PySem.W.mg_of X G a13⟩
  have r14 : Hr K mg "states" s_states := ⟨_, _, fun_mk (st := s_states) l14 c14 k14, PySem.W.mg_of X G a14⟩
  have r15 : Hr K mg "check_room" s_check_room := ⟨_, _, fun_mk (st := s_check_room) l15 c15 k15, PySem.W.mg_of X G a15⟩
  have r16 : Hr K mg "ways_from_mark" s_ways_from_mark := ⟨_, _, fun_mk (st := s_ways_from_mark) l16 c16 k16, PySem.W.mg_of X G a16⟩
  have r17 : Hr K mg "ways_on" s_ways_on := ⟨_, _, fun_mk (st := s_ways_on) l17 c17 k17, PySem.W.mg_of X G a17⟩
  have r18 : Hr K mg "one_of_each" s_one_of_each := ⟨_, _, fun_mk (st := s_one_of_each) l18 c18 k18, PySem.W.mg_of X G a18⟩
  have r19 : Hr K mg "sign" s_sign := ⟨_, _, fun_mk (st := s_sign) l19 c19 k19, PySem.W.mg_of X G a19⟩
  have r20 : Hr K mg "may_be_sum" s_may_be_sum := ⟨_, _, fun_mk (st := s_may_be_sum) l20 c20 k20, PySem.W.mg_of X G a20⟩
  have r21 : Hr K mg "mark_place" s_mark_place := ⟨_, _, fun_mk (st := s_mark_place) l21 c21 k21, PySem.W.mg_of X G a21⟩
  have r22 : Hr K mg "keeps" s_keeps := ⟨_, _, fun_mk (st := s_keeps) l22 c22 k22, PySem.W.mg_of X G a22⟩
  have r23 : Hr K mg "first_broken" s_first_broken := ⟨_, _, fun_mk (st := s_first_broken) l23 c23 k23, PySem.W.mg_of X G a23⟩
  have r24 : Hr K mg "nexts" s_nexts := ⟨_, _, fun_mk (st := s_nexts) l24 c24 k24, PySem.W.mg_of X G a24⟩
  have r25 : Hr K mg "nexts_of_each" s_nexts_of_each := ⟨_, _, fun_mk (st := s_nexts_of_each) l25 c25 k25, PySem.W.mg_of X G a25⟩
  have r26 : Hr K mg "reach" s_reach := ⟨_, _, fun_mk (st := s_reach) l26 c26 k26, PySem.W.mg_of X G a26⟩
  have r27 : Hr K mg "all_rooms" s_all_rooms := ⟨_, _, fun_mk (st := s_all_rooms) l27 c27 k27, PySem.W.mg_of X G a27⟩
  have r28 : Hr K mg "rooms" s_rooms := ⟨_, _, fun_mk (st := s_rooms) l28 c28 k28, PySem.W.mg_of X G a28⟩
  have r29 : Hr K mg "is_name" s_is_name := ⟨_, _, fun_mk (st := s_is_name) l29 c29 k29, PySem.W.mg_of X G a29⟩
  have r30 : Hr K mg "are_marks" s_are_marks := ⟨_, _, fun_mk (st := s_are_marks) l30 c30 k30, PySem.W.mg_of X G a30⟩
  have r31 : Hr K mg "check_things" s_check_things := ⟨_, _, fun_mk (st := s_check_things) l31 c31 k31, PySem.W.mg_of X G a31⟩
  have r32 : Hr K mg "is_number_below" s_is_number_below := ⟨_, _, fun_mk (st := s_is_number_below) l32 c32 k32, PySem.W.mg_of X G a32⟩
  have r33 : Hr K mg "is_tie" s_is_tie := ⟨_, _, fun_mk (st := s_is_tie) l33 c33 k33, PySem.W.mg_of X G a33⟩
  have r34 : Hr K mg "check_ties" s_check_ties := ⟨_, _, fun_mk (st := s_check_ties) l34 c34 k34, PySem.W.mg_of X G a34⟩
  have r37 : Hm K C "things" "House.things" s_House_things := ⟨_, _, fun_mk (st := s_House_things) l37 c37 k37, ⟨m37, i37, k37⟩⟩
  have D_House_things := fun ns : List Int => ok_House_things (Pg := l.prog) (base := base) (ns := ns) T r37
  have r38 : Hm K C "ties" "House.ties" s_House_ties := ⟨_, _, fun_mk (st := s_House_ties) l38 c38 k38, ⟨m38, i38, k38⟩⟩
  have D_House_ties := fun ns : List Int => ok_House_ties (Pg := l.prog) (base := base) (ns := ns) T r38
  have D__law_taken := fun ns : List Int => ok__law_taken (Pg := l.prog) (base := base) (ns := ns) T r1
  have D__law_marks := fun ns : List Int => ok__law_marks (Pg := l.prog) (base := base) (ns := ns) T r2 (D__law_taken ns)
  have D__law_things := fun ns : List Int => ok__law_things (Pg := l.prog) (base := base) (ns := ns) T r3 (D__law_taken ns) (D__law_marks ns)
  have D__law_few := fun ns : List Int => ok__law_few (Pg := l.prog) (base := base) (ns := ns) T r4 (D__law_things ns)
  have D__law_tie := fun ns : List Int => ok__law_tie (Pg := l.prog) (base := base) (ns := ns) T r5 (D__law_taken ns)
  have D__law_ties := fun ns : List Int => ok__law_ties (Pg := l.prog) (base := base) (ns := ns) T r6 (D__law_taken ns) (D__law_tie ns)
  have D__law_keeps := fun ns : List Int => ok__law_keeps (Pg := l.prog) (base := base) (ns := ns) T r7
  have D__law_first := fun ns : List Int => ok__law_first (Pg := l.prog) (base := base) (ns := ns) T r8 (D__law_keeps ns)
  have D__law_spots := fun ns : List Int => ok__law_spots (Pg := l.prog) (base := base) (ns := ns) T r9
  have D__law_rooms := fun ns : List Int => ok__law_rooms (Pg := l.prog) (base := base) (ns := ns) T r10 (D__law_first ns) (D__law_spots ns)
  have D__law_any := fun ns : List Int => ok__law_any (Pg := l.prog) (base := base) (ns := ns) T r11 (D__law_taken ns) (D__law_spots ns)
  have D__law_room := fun ns : List Int => ok__law_room (Pg := l.prog) (base := base) (ns := ns) T r12 (D__law_any ns) (D__law_taken ns) (D__law_rooms ns)
  have D_is_mark := fun ns : List Int => ok_is_mark (Pg := l.prog) (base := base) (ns := ns) T r13
  have D_states := fun ns : List Int => ok_states (Pg := l.prog) (base := base) (ns := ns) T r14 (D_is_mark ns)
  have D_check_room := fun ns : List Int => ok_check_room (Pg := l.prog) (base := base) (ns := ns) (fx := (fun n => match n with | 0 => C0 | _ => C1)) T r15 TX (D_states ns) (D_House_things ns)
  have D_ways_from_mark := fun ns : List Int => ok_ways_from_mark (Pg := l.prog) (base := base) (ns := ns) T r16
  have D_ways_on := fun ns : List Int => ok_ways_on (Pg := l.prog) (base := base) (ns := ns) T r17 (D_is_mark ns) (D_ways_from_mark ns)
  have D_one_of_each := fun ns : List Int => ok_one_of_each (Pg := l.prog) (base := base) (ns := ns) T r18
  have D_sign := fun ns : List Int => ok_sign (Pg := l.prog) (base := base) (ns := ns) T r19
  have D_may_be_sum := fun ns : List Int => ok_may_be_sum (Pg := l.prog) (base := base) (ns := ns) T r20 (D_sign ns)
  have D_mark_place := fun ns : List Int => ok_mark_place (Pg := l.prog) (base := base) (ns := ns) T r21
  have D_keeps := fun ns : List Int => ok_keeps (Pg := l.prog) (base := base) (ns := ns) T r22 (D_may_be_sum ns) (D_sign ns) (D_mark_place ns)
  have D_first_broken := fun ns : List Int => ok_first_broken (Pg := l.prog) (base := base) (ns := ns) T r23 (D_keeps ns)
  have D_nexts := fun ns : List Int => ok_nexts (Pg := l.prog) (base := base) (ns := ns) (fx := (fun n => match n with | 0 => C0 | _ => C1)) T r24 (D_one_of_each ns) (D_first_broken ns) (D_House_ties ns) (D_House_things ns) (D_ways_on ns) (D_check_room ns)
  have D_nexts_of_each := fun ns : List Int => ok_nexts_of_each (Pg := l.prog) (base := base) (ns := ns) T r25 (D_nexts ns)
  have D_reach := fun ns : List Int => ok_reach (Pg := l.prog) (base := base) (ns := ns) (fx := (fun n => match n with | 0 => C0 | _ => C1)) T r26 (D_nexts_of_each ns) (D_check_room ns)
  have D_all_rooms := fun ns : List Int => ok_all_rooms (Pg := l.prog) (base := base) (ns := ns) T r27 (D_one_of_each ns) (D_House_things ns) (D_states ns)
  have D_rooms := fun ns : List Int => ok_rooms (Pg := l.prog) (base := base) (ns := ns) T r28 (D_all_rooms ns) (D_first_broken ns) (D_House_ties ns)
  have D_is_name := fun ns : List Int => ok_is_name (Pg := l.prog) (base := base) (ns := ns) T r29
  have D_are_marks := fun ns : List Int => ok_are_marks (Pg := l.prog) (base := base) (ns := ns) T r30
  have D_check_things := fun ns : List Int => ok_check_things (Pg := l.prog) (base := base) (ns := ns) T r31 (D_is_name ns) (D_are_marks ns)
  have D_is_number_below := fun ns : List Int => ok_is_number_below (Pg := l.prog) (base := base) (ns := ns) T r32
  have D_is_tie := fun ns : List Int => ok_is_tie (Pg := l.prog) (base := base) (ns := ns) T r33 (D_is_number_below ns)
  have D_check_ties := fun ns : List Int => ok_check_ties (Pg := l.prog) (base := base) (ns := ns) T r34 (D_is_tie ns)
  have D_House := fun ns : List Int => ok_House (Pg := l.prog) (base := base) (ns := ns) T ⟨_, _, fun_mk (st := s_House_init) l36 c36 k36, ⟨mk, m36, i36, kc⟩, PySem.W.mg_of X G aC⟩ (D_check_things ns) (D_check_ties ns)
  exact ok_law T (fun_mk (st := s_law) l35 c35 k35) D_rooms D_nexts D_reach D__law_keeps D__law_room D_House D__law_taken D__law_tie D__law_ties D__law_few
end Law
/-! The law's mathematics: data with types, what each def tells of it. -/
namespace Law
open PySem L2 FL
/-! ### encodings -/
abbrev Spot := Int × Int
def spD (s : Spot) : PyData := .tuple [.int s.1, .int s.2]
abbrev Room3 := List Spot
def rmD (r : List Spot) : PyData := .tuple (r.map spD)
abbrev Thing := Str × List Int
def mkD (ms : List Int) : PyData := .tuple (ms.map .int)
def thD (t : Thing) : PyData := .tuple [.str t.1, mkD t.2]
def thsD (ts : List Thing) : PyData := .list (ts.map thD)
inductive Tie where
  | rate (i j m : Nat)
  | edge (o : Bool) (i m : Nat)
  | two (a : Bool) (i j : Nat)
  | three (p : Bool) (i j k : Nat)
def tieD : Tie → PyData
  | .rate i j m => .tuple [.str (Str.ofString "rate"), .int i, .int j, .int m]
  | .edge o i m => .tuple [.str (if o then Str.ofString "over" else Str.ofString "under"), .int i, .int m]
  | .two a i j => .tuple [.str (if a then Str.ofString "against" else Str.ofString "with"), .int i, .int j]
  | .three p i j k => .tuple [.str (if p then Str.ofString "product" else Str.ofString "sum"), .int i, .int j, .int k]
def tisD (ts : List Tie) : PyData := .list (ts.map tieD)
/-! ### texts -/
theorem ofString_inj {a b : String} : (Str.ofString a = Str.ofString b) ↔ a.toList = b.toList := by
  rw [Str.ofString_eq_toList, Str.ofString_eq_toList]
  constructor
  · intro h
    injection h with h
    have h2 : a.toList.map Char.toNat = b.toList.map Char.toNat := by simpa using h
    have inj : ∀ x y : Char, x.toNat = y.toNat → x = y := fun x y e => Char.ext (UInt32.toNat_inj.mp e)
    exact (List.map_inj_right inj).mp h2
  · intro h
    rw [h]
/-- two literal texts: equal? -/
theorem eq_str (a b : Str) : eqO (.str a) (.str b) = some (decide (a = b)) := by
  unfold eqO
  simp only [dV]
  by_cases h : a = b
  · subst h; simp [scal]
  · simp [scal, h]
theorem eq_int (a b : Int) : eqO (.int a) (.int b) = some (decide (a = b)) := by
  unfold eqO
  simp [dV, scal]
theorem dec_lit (a b : String) : decide (Str.ofString a = Str.ofString b) = decide (a.toList = b.toList) := decide_eq_decide.mpr ofString_inj
/-! ### places -/
theorem atI_nat {α : Type} {xs : List α} {i : Nat} {x : α} (h : xs[i]? = some x) : atI xs (i : Int) = some x := by
  have hl := (List.getElem?_eq_some_iff.mp h).1
  unfold atI ixN
  rw [if_pos (by omega), if_pos (by omega)]
  show xs[(i : Int).toNat]? = _
  rw [Int.toNat_natCast]
  exact h
theorem atI_last {α : Type} {xs : List α} {x : α} (h : xs.getLast? = some x) : atI xs (-1) = some x := by
  have hne : xs ≠ [] := fun z => by rw [z] at h; cases h
  have hl : 0 < xs.length := List.length_pos_iff.mpr hne
  unfold atI ixN
  rw [if_neg (by omega), if_pos (by omega)]
  show xs[(-1 + (xs.length : Int)).toNat]? = _
  rw [List.getLast?_eq_getElem?] at h
  have e : (-1 + (xs.length : Int)).toNat = xs.length - 1 := by omega
  rw [e]
  exact h
theorem atI_0 {α : Type} (x : α) (xs : List α) : atI (x :: xs) 0 = some x := atI_nat (i := 0) rfl
theorem atI_1 {α : Type} (x y : α) (xs : List α) : atI (x :: y :: xs) 1 = some y := atI_nat (i := 1) rfl
theorem atI_2 {α : Type} (x y z : α) (xs : List α) : atI (x :: y :: z :: xs) 2 = some z := atI_nat (i := 2) rfl
theorem atI_3 {α : Type} (x y z u : α) (xs : List α) : atI (x :: y :: z :: u :: xs) 3 = some u := atI_nat (i := 3) rfl
theorem atI_mapD {α : Type} (f : α → PyData) {xs : List α} {i : Nat} {x : α} (h : xs[i]? = some x) : atI (xs.map f) (i : Int) = some (f x) := atI_nat (by rw [List.getElem?_map, h]; rfl)
/-! ### comprehensions and loops over typed lists -/
theorem lcGo_map {α : Type} {g : PyData → List Sl → Option (List Sl)} {tt : Mx Bool} {te : Mx Vl} {ss : List Sl} {rw : Ro} (enc f : α → PyData) (p : α → Bool) : ∀ (ys : List α), (∀ y ∈ ys, ∃ ss1, g (enc y) ss = some ss1 ∧ tt ss1 rw = some (p y, rw) ∧ (p y = true → te ss1 rw = some (.dat (f y), rw))) →
    lcGo g tt te ss (ys.map enc) rw = some ((ys.filter p).map f, rw)
  | [], _ => rfl
  | y :: ys, h => by
    obtain ⟨ss1, h1, h2, h3⟩ := h y List.mem_cons_self
    have ih := lcGo_map (g := g) (tt := tt) (te := te) (ss := ss) (rw := rw) enc f p ys fun z hz => h z (List.mem_cons_of_mem _ hz)
    rw [List.map_cons]
    unfold lcGo
    rw [h1]
    show (match tt ss1 rw with | none => none | some (true, rw1) => _ | some (false, rw1) => _) = _
    rw [h2]
    cases hp : p y with
    | true =>
      show (match te ss1 rw with | some (.dat y, rw2) => _ | _ => none) = _
      rw [h3 hp]
      show (match lcGo g tt te ss (ys.map enc) rw with | some (zs, rw3) => some (f y :: zs, rw3) | none => none) = _
      rw [ih, List.filter_cons_of_pos hp]
      rfl
    | false =>
      show lcGo g tt te ss (ys.map enc) rw = _
      rw [ih, List.filter_cons_of_neg (by rw [hp]; simp)]
theorem rgD_map (n : Nat) : rgD 0 n = (List.range n).map fun i => PyData.int (i : Nat) := by
  unfold rgD
  simp
/-- a loop that goes on -/
theorem forGo_step {g : PyData → List Sl → Option (List Sl)} {b : Sx} {x : PyData} {xs : List PyData} {ss ss1 ss2 : List Sl} {rw rw2 : Ro} (h1 : g x ss = some ss1) (h2 : b ss1 rw = some (.nx ss2 rw2)) : forGo g b (x :: xs) ss rw = forGo g b xs ss2 rw2 := by
  show (match g x ss with | none => none | some ss1 => _) = _
  rw [h1]
  show (match b ss1 rw with | some (.nx ss2 rw2) => forGo g b xs ss2 rw2 | some (.ct ss2 rw2) => forGo g b xs ss2 rw2 | some (.bk ss2 rw2) => some (.nx ss2 rw2) | o => o) = _
  rw [h2]
/-- a loop that ends by return -/
theorem forGo_ret {g : PyData → List Sl → Option (List Sl)} {b : Sx} {x : PyData} {xs : List PyData} {ss ss1 : List Sl} {rw rw2 : Ro} {v : Vl} (h1 : g x ss = some ss1) (h2 : b ss1 rw = some (.rt v rw2)) : forGo g b (x :: xs) ss rw = some (.rt v rw2) := by
  show (match g x ss with | none => none | some ss1 => _) = _
  rw [h1]
  show (match b ss1 rw with | some (.nx ss2 rw2) => forGo g b xs ss2 rw2 | some (.ct ss2 rw2) => forGo g b xs ss2 rw2 | some (.bk ss2 rw2) => some (.nx ss2 rw2) | o => o) = _
  rw [h2]
theorem forGo_er {g : PyData → List Sl → Option (List Sl)} {b : Sx} {x : PyData} {xs : List PyData} {ss ss1 ss2 : List Sl} {rw rw2 : Ro} {v : Exn} (h1 : g x ss = some ss1) (h2 : b ss1 rw = some (.er v ss2 rw2)) : forGo g b (x :: xs) ss rw = some (.er v ss2 rw2) := by
  show (match g x ss with | none => none | some ss1 => _) = _
  rw [h1]
  show (match b ss1 rw with | some (.nx ss2 rw2) => forGo g b xs ss2 rw2 | some (.ct ss2 rw2) => forGo g b xs ss2 rw2 | some (.bk ss2 rw2) => some (.nx ss2 rw2) | o => o) = _
  rw [h2]
/-! ### bodies -/
theorem bodyP_rt {n k : Nat} {m : Sx} {xs : List Vl} {v : Vl} {rw : Ro} (hl : xs.length = k) (h : m (slots n xs) (0, 0) = some (.rt v rw)) : bodyP n k m xs = some v := by
  unfold bodyP
  rw [if_pos hl, h]
theorem bodyP_nx {n k : Nat} {m : Sx} {xs : List Vl} {ss : List Sl} {rw : Ro} (hl : xs.length = k) (h : m (slots n xs) (0, 0) = some (.nx ss rw)) : bodyP n k m xs = some (.dat .none) := by
  unfold bodyP
  rw [if_pos hl, h]
theorem bodyP_rl {n k : Nat} {m : Sx} {xs : List Vl} {ds : List PyData} {rw : Ro} (hl : xs.length = k) (h : m (slots n xs) (0, 0) = some (.rl ds rw)) : bodyP n k m xs = some (.dat (.list ds)) := by
  unfold bodyP
  rw [if_pos hl, h]
theorem bodyL_rl {n k : Nat} {m : Sx} {xs : List Vl} {ds : List PyData} {rw : Ro} (hl : xs.length = k) (h : m (slots n xs) (0, 0) = some (.rl ds rw)) : bodyL n k m xs = some ds := by
  unfold bodyL
  rw [if_pos hl, h]
theorem bodyR_rt {n k : Nat} {m : Sx} {xs : List Vl} {v : Vl} {r0 rw : Ro} (hl : xs.length = k) (h : m (slotsR n xs) r0 = some (.rt v rw)) : bodyR n k m xs r0 = some (v, rw) := by
  unfold bodyR
  rw [if_pos hl, h]
theorem bodyR_rl {n k : Nat} {m : Sx} {xs : List Vl} {ds : List PyData} {r0 rw : Ro} (hl : xs.length = k) (h : m (slotsR n xs) r0 = some (.rl ds rw)) : bodyR n k m xs r0 = some (.dat (.list ds), rw) := by
  unfold bodyR
  rw [if_pos hl, h]
theorem bodyX_rt {n k : Nat} {m : Sx} {xs : List Vl} {v : Vl} {rw : Ro} (hl : xs.length = k) (h : m (slots n xs) (0, 0) = some (.rt v rw)) : bodyX n k m xs = some (.ok v) := by
  unfold bodyX
  rw [if_pos hl, h]
theorem bodyX_nx {n k : Nat} {m : Sx} {xs : List Vl} {ss : List Sl} {rw : Ro} (hl : xs.length = k) (h : m (slots n xs) (0, 0) = some (.nx ss rw)) : bodyX n k m xs = some (.ok (.dat .none)) := by
  unfold bodyX
  rw [if_pos hl, h]
theorem bodyX_er {n k : Nat} {m : Sx} {xs : List Vl} {e : Exn} {ss : List Sl} {rw : Ro} (hl : xs.length = k) (h : m (slots n xs) (0, 0) = some (.er e ss rw)) : bodyX n k m xs = some (.er e) := by
  unfold bodyX
  rw [if_pos hl, h]
theorem seq_nx {a b : Sx} {ss ss1 : List Sl} {rw rw1 : Ro} (h : a ss rw = some (.nx ss1 rw1)) : sSeq a b ss rw = b ss1 rw1 := by
  unfold sSeq
  rw [h]
theorem seq_rt {a b : Sx} {ss : List Sl} {rw rw1 : Ro} {v : Vl} (h : a ss rw = some (.rt v rw1)) : sSeq a b ss rw = some (.rt v rw1) := by
  unfold sSeq
  rw [h]
theorem seq_er {a b : Sx} {ss ss1 : List Sl} {rw rw1 : Ro} {v : Exn} (h : a ss rw = some (.er v ss1 rw1)) : sSeq a b ss rw = some (.er v ss1 rw1) := by
  unfold sSeq
  rw [h]
theorem for_eq {mi : Mx (List PyData)} {g : PyData → List Sl → Option (List Sl)} {b : Sx} {ss : List Sl} {xs : List PyData} {rw rw1 : Ro} (h : mi ss rw = some (xs, rw1)) : sFor mi g b ss rw = forGo g b xs ss rw1 := by
  unfold sFor
  rw [h]
theorem lc_eq {vs : List Nat} {mi : Mx (List PyData)} {g : PyData → List Sl → Option (List Sl)} {tt : Mx Bool} {te : Mx Vl} {ss : List Sl} {rw rw1 : Ro} {xs : List PyData} (h0 : noOwn ss vs = true) (h1 : mi ss rw = some (xs, rw1)) (h2 : xs.length ≤ 100000) : mLc vs mi g tt te ss rw = lcGo g tt te (wipeS ss vs) xs rw1 := by
  unfold mLc
  rw [if_pos h0, h1]
  simp only []
  rw [if_pos h2]
theorem lcGo2_cons {g g1 : PyData → List Sl → Option (List Sl)} {mi1 : Mx (List PyData)} {vs1 : List Nat} {tt1 : Mx Bool} {te : Mx Vl} {ss ss1 : List Sl} {x : PyData} {xs us ys zs : List PyData} {n : Nat} {rw rw1 rw2 rw3 : Ro} (h1 : g x ss = some ss1) (h2 : noOwn ss1 vs1 = true) (h3 : mi1 ss1 rw = some (us, rw1)) (h4 : us.length ≤ n)
    (h5 : lcGo g1 tt1 te (wipeS ss1 vs1) us rw1 = some (ys, rw2)) (h6 : lcGo2 g mi1 vs1 g1 tt1 te ss xs (n - us.length) rw2 = some (zs, rw3)) : lcGo2 g mi1 vs1 g1 tt1 te ss (x :: xs) n rw = some (ys ++ zs, rw3) := by
  unfold lcGo2
  rw [h1]
  simp only []
  rw [if_pos h2, h3]
  simp only []
  rw [if_pos h4, h5]
  simp only []
  rw [h6]
theorem call_eq {F : List Vl → Option Vl} {ma : Mx (List Vl)} {ss : List Sl} {rw rw1 : Ro} {xs : List Vl} {x : Vl} (h1 : ma ss rw = some (xs, rw1)) (h2 : F xs = some x) : mCall F ma ss rw = some (x, rw1) := by
  unfold mCall bnd opt
  rw [h1]
  simp only []
  rw [h2]
theorem callL_eq {F : List Vl → Option (List PyData)} {ma : Mx (List Vl)} {ss : List Sl} {rw rw1 : Ro} {xs : List Vl} {x : List PyData} (h1 : ma ss rw = some (xs, rw1)) (h2 : F xs = some x) : mCallL F ma ss rw = some (x, rw1) := by
  unfold mCallL bnd opt
  rw [h1]
  simp only []
  rw [h2]
theorem callX_eq {F : List Vl → Option Res} {ma : Mx (List Vl)} {ss : List Sl} {rw rw1 : Ro} {xs : List Vl} {x : Res} (h1 : ma ss rw = some (xs, rw1)) (h2 : F xs = some x) : mCallX F ma ss rw = some (x, rw1) := by
  unfold mCallX bnd opt
  rw [h1]
  simp only []
  rw [h2]
theorem callR_eq {F : List Vl → Ro → Option (Vl × Ro)} {ma : Mx (List Vl)} {i : Nat} {ss : List Sl} {rw rw1 rw2 : Ro} {xs : List Vl} {x : Vl} (h0 : ss[i]? = some .row) (h1 : ma ss rw = some (xs, rw1)) (h2 : F xs rw1 = some (x, rw2)) : mCallR i F ma ss rw = some (x, rw2) := by
  unfold mCallR
  rw [h0]
  simp only []
  rw [h1]
  simp only []
  rw [h2]
theorem seq_eq {m : Mx Vl} {ss : List Sl} {rw rw1 : Ro} {x : Vl} {ds : List PyData} (h1 : m ss rw = some (x, rw1)) (h2 : seqD x = some ds) : mSeq m ss rw = some (ds, rw1) := by
  unfold mSeq bnd opt
  rw [h1]
  simp only []
  rw [h2]
theorem m1_eq {g : Vl → Option Vl} {m : Mx Vl} {ss : List Sl} {rw rw1 : Ro} {x y : Vl} (h1 : m ss rw = some (x, rw1)) (h2 : g x = some y) : m1 g m ss rw = some (y, rw1) := by
  unfold m1 bnd opt
  rw [h1]
  simp only []
  rw [h2]
theorem m2_eq {g : Vl → Vl → Option Vl} {m n : Mx Vl} {ss : List Sl} {rw rw1 rw2 : Ro} {x y z : Vl} (h1 : m ss rw = some (x, rw1)) (h2 : n ss rw1 = some (y, rw2)) (h3 : g x y = some z) : m2 g m n ss rw = some (z, rw2) := by
  unfold m2 bnd opt
  rw [h1]
  simp only []
  rw [h2]
  simp only []
  rw [h3]
theorem tst_eq {m : Mx Vl} {ss : List Sl} {rw rw1 : Ro} {b : Bool} (h1 : m ss rw = some (.dat (.bool b), rw1)) : mTst m ss rw = some (b, rw1) := by
  unfold mTst bnd opt
  rw [h1]
theorem not_eq {m : Mx Bool} {ss : List Sl} {rw rw1 : Ro} {b : Bool} (h1 : m ss rw = some (b, rw1)) : mNot m ss rw = some (!b, rw1) := by
  unfold mNot bnd pur
  rw [h1]
theorem cons_eq {m : Mx Vl} {ms : Mx (List Vl)} {ss : List Sl} {rw rw1 rw2 : Ro} {x : Vl} {xs : List Vl} (h1 : m ss rw = some (x, rw1)) (h2 : ms ss rw1 = some (xs, rw2)) : mCons m ms ss rw = some (x :: xs, rw2) := by
  unfold mCons bnd pur
  rw [h1]
  simp only []
  rw [h2]
theorem set_eq {i : Nat} {m : Mx Vl} {ss : List Sl} {rw rw1 : Ro} {x : Vl} (h1 : m ss rw = some (x, rw1)) (h2 : i < ss.length) : sSet i m ss rw = some (.nx (ss.set i (.vl x)) rw1) := by
  unfold sSet putS
  rw [h1]
  simp only []
  rw [if_pos h2]
theorem own_eq {i : Nat} {m : Mx (List PyData)} {ss : List Sl} {rw rw1 : Ro} {x : List PyData} (h1 : m ss rw = some (x, rw1)) (h2 : i < ss.length) : sOwn i m ss rw = some (.nx (ss.set i (.own x)) rw1) := by
  unfold sOwn putS
  rw [h1]
  simp only []
  rw [if_pos h2]
theorem list_eq {m : Mx (List PyData)} {ss : List Sl} {rw rw1 : Ro} {x : List PyData} (h1 : m ss rw = some (x, rw1)) : mList m ss rw = some (.dat (.list x), rw1) := by
  unfold mList bnd pur
  rw [h1]
theorem ret_eq {m : Mx Vl} {ss : List Sl} {rw rw1 : Ro} {x : Vl} (h1 : m ss rw = some (x, rw1)) : sRet m ss rw = some (.rt x rw1) := by
  unfold sRet
  rw [h1]
theorem retL_eq {m : Mx (List PyData)} {ss : List Sl} {rw rw1 : Ro} {x : List PyData} (h1 : m ss rw = some (x, rw1)) : sRetL m ss rw = some (.rl x rw1) := by
  unfold sRetL
  rw [h1]
theorem ifT {c : Mx Bool} {a b : Sx} {ss : List Sl} {rw rw1 : Ro} (h1 : c ss rw = some (true, rw1)) : sIf c a b ss rw = a ss rw1 := by
  unfold sIf
  rw [h1]
theorem ifF {c : Mx Bool} {a b : Sx} {ss : List Sl} {rw rw1 : Ro} (h1 : c ss rw = some (false, rw1)) : sIf c a b ss rw = b ss rw1 := by
  unfold sIf
  rw [h1]
theorem ext_eq {i : Nat} {m : Mx Vl} {ss : List Sl} {rw rw1 : Ro} {ds es : List PyData} (h0 : ss[i]? = some (.own ds)) (h1 : m ss rw = some (.dat (.list es), rw1)) (h2 : ds.length + es.length ≤ 100000) : sExt i m ss rw = some (.nx (ss.set i (.own (ds ++ es))) rw1) := by
  unfold sExt
  rw [h0]
  simp only []
  rw [h1]
  simp only []
  rw [if_pos h2]
theorem app_eq {i : Nat} {m : Mx Vl} {ss : List Sl} {rw rw1 : Ro} {ds : List PyData} {d : PyData} (h0 : ss[i]? = some (.own ds)) (h1 : m ss rw = some (.dat d, rw1)) (h2 : ds.length < 100000) : sApp i m ss rw = some (.nx (ss.set i (.own (ds ++ [d]))) rw1) := by
  unfold sApp
  rw [h0]
  simp only []
  rw [h1]
  simp only []
  rw [if_pos h2]
/-! ### small defs -/
def sgn (n : Int) : Int := if 0 < n then 1 else if n < 0 then -1 else 0
theorem sign_val (n : Int) : F_sign [.dat (.int n)] = some (.dat (.int (sgn n))) := by
  unfold F_sign m_sign sgn
  by_cases h1 : 0 < n <;> by_cases h2 : n < 0 <;> simp [bodyP, bodyL, bodyR, bodyX, bodyT, slots, slotsR, ssT, sSeq, sIf, sNx, sRet, sRetL, sRetO, sRetX, sSet, sSetX, sOwn, sApp, sExt, sClr, sDrop, sDropX, sTgt, sFor, sFrz, frz, sRow, sTry, sRaise, noAt, noRow, mBor, mTst, mAnd, mOr, mNot, mIf, mAndV, mOrV, mNotV, mChain, m1, m2, bnd, opt, pur, mVar, mC, mCons, mNil, mTup, mLst, mList, mCall, mCallL, mCallX, mCallR, mOk, mHse, mMake, mSl, mSome, mNone, mSeq, mEn, mRg1, mRg2, mZ3, mLc, mLc2, mYes, mIxV, mInO, mRow1, mRow2, mRowLen, mRowAt, dats, putS, gNm, gTp, gsCons, gsNil, seqD, addD, subD, subI, mulD, fdivD, fdivI, modD, modI, negD, i2, ltD, ltI, leD, leI, gtD, gtI, geD, geI, eqD, neD, isND, notND, inD, ninD, ixD, slD, lenD, tupleD, listD, intD, lstD, isiD, isi2D, tyN, isTy, noOwn, wipeS, h1, h2]
theorem mark_val (n : Int) : F_mark_place [.dat (.int n)] = some (.dat (.int (2 * n + 1))) := by
  simp [F_mark_place, m_mark_place, bodyP, bodyL, bodyR, bodyX, bodyT, slots, slotsR, ssT, sSeq, sIf, sNx, sRet, sRetL, sRetO, sRetX, sSet, sSetX, sOwn, sApp, sExt, sClr, sDrop, sDropX, sTgt, sFor, sFrz, frz, sRow, sTry, sRaise, noAt, noRow, mBor, mTst, mAnd, mOr, mNot, mIf, mAndV, mOrV, mNotV, mChain, m1, m2, bnd, opt, pur, mVar, mC, mCons, mNil, mTup, mLst, mList, mCall, mCallL, mCallX, mCallR, mOk, mHse, mMake, mSl, mSome, mNone, mSeq, mEn, mRg1, mRg2, mZ3, mLc, mLc2, mYes, mIxV, mInO, mRow1, mRow2, mRowLen, mRowAt, dats, putS, gNm, gTp, gsCons, gsNil, seqD, addD, subD, subI, mulD, fdivD, fdivI, modD, modI, negD, i2, ltD, ltI, leD, leI, gtD, gtI, geD, geI, eqD, neD, isND, notND, inD, ninD, ixD, slD, lenD, tupleD, listD, intD, lstD, isiD, isi2D, tyN, isTy, noOwn, wipeS]
/-- the i-th thing's place and trend -/
def sp (r : List Spot) (i : Nat) : Spot := r.getD i (0, 0)
/-- the ties a room keeps, as the program reckons -/
def keepB (r : List Spot) : Tie → Bool
  | .rate i j m => decide ((sp r i).2 = sgn ((sp r j).1 - (2 * m + 1)))
  | .edge o i m => if o then decide (2 * (m : Int) + 1 ≤ (sp r i).1) else decide ((sp r i).1 ≤ 2 * m + 1)
  | .two a i j => decide ((sp r i).2 = if a then -(sp r j).2 else (sp r j).2)
  | .three p i j k => if p then decide ((sp r i).2 = (sp r j).2 * (sp r k).2) else
      if (sp r j).2 * (sp r k).2 = -1 then true else decide ((sp r i).2 = sgn ((sp r j).2 + (sp r k).2))
def Trend (t : Int) : Prop := t = -1 ∨ t = 0 ∨ t = 1
def RoomOk (n : Nat) (r : List Spot) : Prop := r.length = n ∧ ∀ s ∈ r, Trend s.2
/-- the ties of a house of things with so many marks each -/
def TieOk (ts : List Thing) : Tie → Prop
  | .rate i j m => i < ts.length ∧ ∃ t, ts[j]? = some t ∧ m < t.2.length
  | .edge _ i m => ∃ t, ts[i]? = some t ∧ m < t.2.length
  | .two _ i j => i < ts.length ∧ j < ts.length ∧ i ≠ j
  | .three _ i j k => i < ts.length ∧ j < ts.length ∧ k < ts.length ∧ i ≠ j ∧ i ≠ k
theorem room_at {r : List Spot} {i : Nat} (h : i < r.length) : r[i]? = some (sp r i) := by
  unfold sp
  rw [List.getElem?_eq_getElem h, List.getD_eq_getElem?_getD, List.getElem?_eq_getElem h]
  rfl
theorem trend_at {n : Nat} {r : List Spot} {i : Nat} (h : RoomOk n r) (hi : i < n) : Trend (sp r i).2 := by
  have := room_at (r := r) (i := i) (by rw [h.1]; exact hi)
  exact h.2 _ (List.mem_of_getElem? this)
theorem small_of {t : Int} (h : Trend t) : t.natAbs < 2 ^ 64 := by
  rcases h with h | h | h <;> subst h <;> decide
theorem may_val {a b c : Int} (hb : Trend b) : F_may_be_sum [.dat (.int a), .dat (.int b), .dat (.int c)] = some (.dat (.bool (if b * c = -1 then true else decide (a = sgn (b + c))))) := by
  have hs := small_of hb
  by_cases h : b * c = -1 <;> simp [F_may_be_sum, m_may_be_sum, bodyP, bodyL, bodyR, bodyX, bodyT, slots, slotsR, ssT, sSeq, sIf, sNx, sRet, sRetL, sRetO, sRetX, sSet, sSetX, sOwn, sApp, sExt, sClr, sDrop, sDropX, sTgt, sFor, sFrz, frz, sRow, sTry, sRaise, noAt, noRow, mBor, mTst, mAnd, mOr, mNot, mIf, mAndV, mOrV, mNotV, mChain, m1, m2, bnd, opt, pur, mVar, mC, mCons, mNil, mTup, mLst, mList, mCall, mCallL, mCallX, mCallR, mOk, mHse, mMake, mSl, mSome, mNone, mSeq, mEn, mRg1, mRg2, mZ3, mLc, mLc2, mYes, mIxV, mInO, mRow1, mRow2, mRowLen, mRowAt, dats, putS, gNm, gTp, gsCons, gsNil, seqD, addD, subD, subI, mulD, fdivD, fdivI, modD, modI, negD, i2, ltD, ltI, leD, leI, gtD, gtI, geD, geI, eqD, neD, isND, notND, inD, ninD, ixD, slD, lenD, tupleD, listD, intD, lstD, isiD, isi2D, tyN, isTy, noOwn, wipeS, eq_int, hs, h, sign_val]
set_option maxHeartbeats 8000000 in
theorem keeps_val {ts : List Thing} {r : List Spot} (hr : RoomOk ts.length r) {t : Tie} (ht : TieOk ts t) : F_keeps [.dat (rmD r), .dat (tieD t)] = some (.dat (.bool (keepB r t))) := by
  cases t with
  | rate i j m =>
    obtain ⟨h1, t, h2, h3⟩ := ht
    have hj : j < ts.length := (List.getElem?_eq_some_iff.mp h2).1
    have ei := atI_mapD spD (room_at (r := r) (i := i) (by rw [hr.1]; exact h1))
    have ej := atI_mapD spD (room_at (r := r) (i := j) (by rw [hr.1]; exact hj))
    simp [F_keeps, m_keeps, bodyP, bodyL, bodyR, bodyX, bodyT, slots, slotsR, ssT, sSeq, sIf, sNx, sRet, sRetL, sRetO, sRetX, sSet, sSetX, sOwn, sApp, sExt, sClr, sDrop, sDropX, sTgt, sFor, sFrz, frz, sRow, sTry, sRaise, noAt, noRow, mBor, mTst, mAnd, mOr, mNot, mIf, mAndV, mOrV, mNotV, mChain, m1, m2, bnd, opt, pur, mVar, mC, mCons, mNil, mTup, mLst, mList, mCall, mCallL, mCallX, mCallR, mOk, mHse, mMake, mSl, mSome, mNone, mSeq, mEn, mRg1, mRg2, mZ3, mLc, mLc2, mYes, mIxV, mInO, mRow1, mRow2, mRowLen, mRowAt, dats, putS, gNm, gTp, gsCons, gsNil, seqD, addD, subD, subI, mulD, fdivD, fdivI, modD, modI, negD, i2, ltD, ltI, leD, leI, gtD, gtI, geD, geI, eqD, neD, isND, notND, inD, ninD, ixD, slD, lenD, tupleD, listD, intD, lstD, isiD, isi2D, tyN, isTy, noOwn, wipeS, rmD, tieD, atI_0, atI_1, atI_2, atI_3, ei, ej, spD, eq_str, eq_int, dec_lit, mark_val, sign_val, keepB]
  | edge o i m =>
    obtain ⟨t, h2, h3⟩ := ht
    have hi : i < ts.length := (List.getElem?_eq_some_iff.mp h2).1
    have ei := atI_mapD spD (room_at (r := r) (i := i) (by rw [hr.1]; exact hi))
    cases o <;> simp [F_keeps, m_keeps, bodyP, bodyL, bodyR, bodyX, bodyT, slots, slotsR, ssT, sSeq, sIf, sNx, sRet, sRetL, sRetO, sRetX, sSet, sSetX, sOwn, sApp, sExt, sClr, sDrop, sDropX, sTgt, sFor, sFrz, frz, sRow, sTry, sRaise, noAt, noRow, mBor, mTst, mAnd, mOr, mNot, mIf, mAndV, mOrV, mNotV, mChain, m1, m2, bnd, opt, pur, mVar, mC, mCons, mNil, mTup, mLst, mList, mCall, mCallL, mCallX, mCallR, mOk, mHse, mMake, mSl, mSome, mNone, mSeq, mEn, mRg1, mRg2, mZ3, mLc, mLc2, mYes, mIxV, mInO, mRow1, mRow2, mRowLen, mRowAt, dats, putS, gNm, gTp, gsCons, gsNil, seqD, addD, subD, subI, mulD, fdivD, fdivI, modD, modI, negD, i2, ltD, ltI, leD, leI, gtD, gtI, geD, geI, eqD, neD, isND, notND, inD, ninD, ixD, slD, lenD, tupleD, listD, intD, lstD, isiD, isi2D, tyN, isTy, noOwn, wipeS, rmD, tieD, atI_0, atI_1, atI_2, atI_3, ei, spD, eq_str, eq_int, dec_lit, mark_val, sign_val, keepB]
  | two a i j =>
    obtain ⟨h1, h2, h3⟩ := ht
    have ei := atI_mapD spD (room_at (r := r) (i := i) (by rw [hr.1]; exact h1))
    have ej := atI_mapD spD (room_at (r := r) (i := j) (by rw [hr.1]; exact h2))
    cases a <;> simp [F_keeps, m_keeps, bodyP, bodyL, bodyR, bodyX, bodyT, slots, slotsR, ssT, sSeq, sIf, sNx, sRet, sRetL, sRetO, sRetX, sSet, sSetX, sOwn, sApp, sExt, sClr, sDrop, sDropX, sTgt, sFor, sFrz, frz, sRow, sTry, sRaise, noAt, noRow, mBor, mTst, mAnd, mOr, mNot, mIf, mAndV, mOrV, mNotV, mChain, m1, m2, bnd, opt, pur, mVar, mC, mCons, mNil, mTup, mLst, mList, mCall, mCallL, mCallX, mCallR, mOk, mHse, mMake, mSl, mSome, mNone, mSeq, mEn, mRg1, mRg2, mZ3, mLc, mLc2, mYes, mIxV, mInO, mRow1, mRow2, mRowLen, mRowAt, dats, putS, gNm, gTp, gsCons, gsNil, seqD, addD, subD, subI, mulD, fdivD, fdivI, modD, modI, negD, i2, ltD, ltI, leD, leI, gtD, gtI, geD, geI, eqD, neD, isND, notND, inD, ninD, ixD, slD, lenD, tupleD, listD, intD, lstD, isiD, isi2D, tyN, isTy, noOwn, wipeS, rmD, tieD, atI_0, atI_1, atI_2, atI_3, ei, ej, spD, eq_str, eq_int, dec_lit, mark_val, sign_val, keepB]
  | three p i j k =>
    obtain ⟨h1, h2, h3, _⟩ := ht
    have ei := atI_mapD spD (room_at (r := r) (i := i) (by rw [hr.1]; exact h1))
    have ej := atI_mapD spD (room_at (r := r) (i := j) (by rw [hr.1]; exact h2))
    have ek := atI_mapD spD (room_at (r := r) (i := k) (by rw [hr.1]; exact h3))
    have tj := trend_at hr h2
    have sj := small_of tj
    cases p <;> simp [F_keeps, m_keeps, bodyP, bodyL, bodyR, bodyX, bodyT, slots, slotsR, ssT, sSeq, sIf, sNx, sRet, sRetL, sRetO, sRetX, sSet, sSetX, sOwn, sApp, sExt, sClr, sDrop, sDropX, sTgt, sFor, sFrz, frz, sRow, sTry, sRaise, noAt, noRow, mBor, mTst, mAnd, mOr, mNot, mIf, mAndV, mOrV, mNotV, mChain, m1, m2, bnd, opt, pur, mVar, mC, mCons, mNil, mTup, mLst, mList, mCall, mCallL, mCallX, mCallR, mOk, mHse, mMake, mSl, mSome, mNone, mSeq, mEn, mRg1, mRg2, mZ3, mLc, mLc2, mYes, mIxV, mInO, mRow1, mRow2, mRowLen, mRowAt, dats, putS, gNm, gTp, gsCons, gsNil, seqD, addD, subD, subI, mulD, fdivD, fdivI, modD, modI, negD, i2, ltD, ltI, leD, leI, gtD, gtI, geD, geI, eqD, neD, isND, notND, inD, ninD, ixD, slD, lenD, tupleD, listD, intD, lstD, isiD, isi2D, tyN, isTy, noOwn, wipeS, rmD, tieD, atI_0, atI_1, atI_2, atI_3, ei, ej, ek, spD, eq_str, eq_int, dec_lit, mark_val, sign_val, keepB, may_val tj, sj]
end Law
/-! The law's own reckoning of a tie; first broken; rooms. -/
namespace Law
open PySem L2 FL
theorem in_two (a x y : Str) : inO (.str a) (.tuple [.str x, .str y]) = some (decide (a = x) || decide (a = y)) := by
  unfold inO
  simp only [dV, dVs]
  show some (inV (.str a) [.str x, .str y]) = _
  have e : ∀ u v : Str, (u == v) = decide (v = u) := fun u v => by
    by_cases h : v = u
    · subst h; simp
    · simp [h, Ne.symm h]
  simp [inV, eqV, e]
theorem canLay_ints : ∀ xs : List Int, PyData.canLayAll0 (xs.map .int) = true
  | [] => rfl
  | x :: xs => by
    rw [List.map_cons]
    unfold PyData.canLayAll0
    rw [canLay_ints xs]
    rfl
theorem depth_ints : ∀ xs : List Int, PyData.depthAll (xs.map .int) = 0
  | [] => by simp [PyData.depthAll]
  | x :: xs => by
    rw [List.map_cons]
    unfold PyData.depthAll
    rw [depth_ints xs]
    simp [PyData.depth]
theorem shaped_ints (xs : List Int) : SeqAt.shaped (.list (xs.map .int)) = true := by
  unfold SeqAt.shaped PyData.canLay0 PyData.depth
  rw [canLay_ints, depth_ints]
  rfl
theorem eqO_ints (xs ys : List Int) : eqO (.list (xs.map .int)) (.list (ys.map .int)) = some (PyData.eqv (.list (xs.map .int)) (.list (ys.map .int))) := by
  unfold eqO
  simp only [dV]
  rw [if_pos ⟨shaped_ints xs, shaped_ints ys⟩]
theorem eqv_nil (xs : List Int) : PyData.eqv (.list (xs.map .int)) (.list []) = xs.isEmpty := by
  cases xs <;> simp [PyData.eqv, PyData.eqvAll]
theorem ne_nil (xs : List Int) : eqO (.list (xs.map .int)) (.list []) = some xs.isEmpty := by
  have h := eqO_ints xs []
  rw [List.map_nil, eqv_nil] at h
  exact h
theorem ne_nil0 : eqO (.list []) (.list []) = some true := ne_nil []
theorem ne_nil1 (x : Int) (xs : List Int) : eqO (.list (.int x :: xs.map .int)) (.list []) = some false := ne_nil (x :: xs)
theorem sgn_rate {t : Int} (h : Trend t) (f : Int) : (decide (0 < t * f) || (decide (t = 0) && decide (f = 0))) = decide (t = sgn f) := by
  unfold sgn
  rcases h with rfl | rfl | rfl
  · by_cases h1 : 0 < f
    · have : ¬ (0 < -1 * f) := by omega
      simp [h1, this] <;> omega
    · by_cases h2 : f < 0
      · have : 0 < -1 * f := by omega
        simp [h1, h2, this]
      · have : f = 0 := by omega
        subst this; simp
  · by_cases h1 : 0 < f
    · simp [h1] <;> omega
    · by_cases h2 : f < 0
      · simp [h1, h2] <;> omega
      · have : f = 0 := by omega
        subst this; simp
  · by_cases h1 : 0 < f
    · simp [h1]
    · by_cases h2 : f < 0
      · simp [h1, h2] <;> omega
      · have : f = 0 := by omega
        subst this; simp
theorem lkeeps_rate {ts : List Thing} {r : List Spot} (hr : RoomOk ts.length r) {i j m : Nat} (ht : TieOk ts (.rate i j m)) : F__law_keeps [.dat (tieD (.rate i j m)), .dat (rmD r)] = some (.dat (.bool (keepB r (.rate i j m)))) := by
  obtain ⟨h1, t, h2, h3⟩ := ht
  have hj : j < ts.length := (List.getElem?_eq_some_iff.mp h2).1
  have ei := atI_mapD spD (room_at (r := r) (i := i) (by rw [hr.1]; exact h1))
  have ej := atI_mapD spD (room_at (r := r) (i := j) (by rw [hr.1]; exact hj))
  have ti := trend_at hr h1
  have si := small_of ti
  have q := sgn_rate ti ((sp r j).1 - (2 * (m : Int) + 1))
  have e1 : (sp r j).1 - 2 * (m : Int) - 1 = (sp r j).1 - (2 * (m : Int) + 1) := by omega
  by_cases hz : 0 < (sp r i).2 * ((sp r j).1 - (2 * (m : Int) + 1)) <;> by_cases hy : (sp r i).2 = 0 <;>
    simp [F__law_keeps, m__law_keeps, bodyP, bodyL, bodyR, bodyX, bodyT, slots, slotsR, ssT, sSeq, sIf, sNx, sRet, sRetL, sRetO, sRetX, sSet, sSetX, sOwn, sApp, sExt, sClr, sDrop, sDropX, sTgt, sFor, sFrz, frz, sRow, sTry, sRaise, noAt, noRow, mBor, mTst, mAnd, mOr, mNot, mIf, mAndV, mOrV, mNotV, mChain, m1, m2, bnd, opt, pur, mVar, mC, mCons, mNil, mTup, mLst, mList, mCall, mCallL, mCallX, mCallR, mOk, mHse, mMake, mSl, mSome, mNone, mSeq, mEn, mRg1, mRg2, mZ3, mLc, mLc2, mYes, mIxV, mInO, mRow1, mRow2, mRowLen, mRowAt, dats, putS, gNm, gTp, gsCons, gsNil, seqD, addD, subD, subI, mulD, fdivD, fdivI, modD, modI, negD, i2, ltD, ltI, leD, leI, gtD, gtI, geD, geI, eqD, neD, isND, notND, inD, ninD, ixD, slD, lenD, tupleD, listD, intD, lstD, isiD, isi2D, tyN, isTy, noOwn, wipeS, rmD, tieD, atI_0, atI_1, atI_2, atI_3, ei, ej, spD, eq_str, eq_int, dec_lit, in_two, keepB, si, e1, hz, hy] at q ⊢ <;> first | exact q | (rw [← q]; done) | (simp [q]; done) | skip
theorem lkeeps_edge {ts : List Thing} {r : List Spot} (hr : RoomOk ts.length r) {o : Bool} {i m : Nat} (ht : TieOk ts (.edge o i m)) : F__law_keeps [.dat (tieD (.edge o i m)), .dat (rmD r)] = some (.dat (.bool (keepB r (.edge o i m)))) := by
  obtain ⟨t, h2, h3⟩ := ht
  have hi : i < ts.length := (List.getElem?_eq_some_iff.mp h2).1
  have ei := atI_mapD spD (room_at (r := r) (i := i) (by rw [hr.1]; exact hi))
  cases o <;> simp [F__law_keeps, m__law_keeps, bodyP, bodyL, bodyR, bodyX, bodyT, slots, slotsR, ssT, sSeq, sIf, sNx, sRet, sRetL, sRetO, sRetX, sSet, sSetX, sOwn, sApp, sExt, sClr, sDrop, sDropX, sTgt, sFor, sFrz, frz, sRow, sTry, sRaise, noAt, noRow, mBor, mTst, mAnd, mOr, mNot, mIf, mAndV, mOrV, mNotV, mChain, m1, m2, bnd, opt, pur, mVar, mC, mCons, mNil, mTup, mLst, mList, mCall, mCallL, mCallX, mCallR, mOk, mHse, mMake, mSl, mSome, mNone, mSeq, mEn, mRg1, mRg2, mZ3, mLc, mLc2, mYes, mIxV, mInO, mRow1, mRow2, mRowLen, mRowAt, dats, putS, gNm, gTp, gsCons, gsNil, seqD, addD, subD, subI, mulD, fdivD, fdivI, modD, modI, negD, i2, ltD, ltI, leD, leI, gtD, gtI, geD, geI, eqD, neD, isND, notND, inD, ninD, ixD, slD, lenD, tupleD, listD, intD, lstD, isiD, isi2D, tyN, isTy, noOwn, wipeS, rmD, tieD, atI_0, atI_1, atI_2, atI_3, ei, spD, eq_str, eq_int, dec_lit, in_two, keepB] <;> omega
theorem lkeeps_two {ts : List Thing} {r : List Spot} (hr : RoomOk ts.length r) {a : Bool} {i j : Nat} (ht : TieOk ts (.two a i j)) : F__law_keeps [.dat (tieD (.two a i j)), .dat (rmD r)] = some (.dat (.bool (keepB r (.two a i j)))) := by
  obtain ⟨h1, h2, h3⟩ := ht
  have ei := atI_mapD spD (room_at (r := r) (i := i) (by rw [hr.1]; exact h1))
  have ej := atI_mapD spD (room_at (r := r) (i := j) (by rw [hr.1]; exact h2))
  cases a <;> simp [F__law_keeps, m__law_keeps, bodyP, bodyL, bodyR, bodyX, bodyT, slots, slotsR, ssT, sSeq, sIf, sNx, sRet, sRetL, sRetO, sRetX, sSet, sSetX, sOwn, sApp, sExt, sClr, sDrop, sDropX, sTgt, sFor, sFrz, frz, sRow, sTry, sRaise, noAt, noRow, mBor, mTst, mAnd, mOr, mNot, mIf, mAndV, mOrV, mNotV, mChain, m1, m2, bnd, opt, pur, mVar, mC, mCons, mNil, mTup, mLst, mList, mCall, mCallL, mCallX, mCallR, mOk, mHse, mMake, mSl, mSome, mNone, mSeq, mEn, mRg1, mRg2, mZ3, mLc, mLc2, mYes, mIxV, mInO, mRow1, mRow2, mRowLen, mRowAt, dats, putS, gNm, gTp, gsCons, gsNil, seqD, addD, subD, subI, mulD, fdivD, fdivI, modD, modI, negD, i2, ltD, ltI, leD, leI, gtD, gtI, geD, geI, eqD, neD, isND, notND, inD, ninD, ixD, slD, lenD, tupleD, listD, intD, lstD, isiD, isi2D, tyN, isTy, noOwn, wipeS, rmD, tieD, atI_0, atI_1, atI_2, atI_3, ei, ej, spD, eq_str, eq_int, dec_lit, in_two, keepB]
theorem lkeeps_prod {ts : List Thing} {r : List Spot} (hr : RoomOk ts.length r) {i j k : Nat} (ht : TieOk ts (.three true i j k)) : F__law_keeps [.dat (tieD (.three true i j k)), .dat (rmD r)] = some (.dat (.bool (keepB r (.three true i j k)))) := by
  obtain ⟨h1, h2, h3, _⟩ := ht
  have ei := atI_mapD spD (room_at (r := r) (i := i) (by rw [hr.1]; exact h1))
  have ej := atI_mapD spD (room_at (r := r) (i := j) (by rw [hr.1]; exact h2))
  have ek := atI_mapD spD (room_at (r := r) (i := k) (by rw [hr.1]; exact h3))
  have tj := small_of (trend_at hr h2)
  simp [F__law_keeps, m__law_keeps, bodyP, bodyL, bodyR, bodyX, bodyT, slots, slotsR, ssT, sSeq, sIf, sNx, sRet, sRetL, sRetO, sRetX, sSet, sSetX, sOwn, sApp, sExt, sClr, sDrop, sDropX, sTgt, sFor, sFrz, frz, sRow, sTry, sRaise, noAt, noRow, mBor, mTst, mAnd, mOr, mNot, mIf, mAndV, mOrV, mNotV, mChain, m1, m2, bnd, opt, pur, mVar, mC, mCons, mNil, mTup, mLst, mList, mCall, mCallL, mCallX, mCallR, mOk, mHse, mMake, mSl, mSome, mNone, mSeq, mEn, mRg1, mRg2, mZ3, mLc, mLc2, mYes, mIxV, mInO, mRow1, mRow2, mRowLen, mRowAt, dats, putS, gNm, gTp, gsCons, gsNil, seqD, addD, subD, subI, mulD, fdivD, fdivI, modD, modI, negD, i2, ltD, ltI, leD, leI, gtD, gtI, geD, geI, eqD, neD, isND, notND, inD, ninD, ixD, slD, lenD, tupleD, listD, intD, lstD, isiD, isi2D, tyN, isTy, noOwn, wipeS, rmD, tieD, atI_0, atI_1, atI_2, atI_3, ei, ej, ek, spD, eq_str, eq_int, dec_lit, in_two, keepB, tj]
theorem lkeeps_sum {ts : List Thing} {r : List Spot} (hr : RoomOk ts.length r) {i j k : Nat} (ht : TieOk ts (.three false i j k)) : F__law_keeps [.dat (tieD (.three false i j k)), .dat (rmD r)] = some (.dat (.bool (keepB r (.three false i j k)))) := by
  obtain ⟨h1, h2, h3, _⟩ := ht
  have ei := atI_mapD spD (room_at (r := r) (i := i) (by rw [hr.1]; exact h1))
  have ej := atI_mapD spD (room_at (r := r) (i := j) (by rw [hr.1]; exact h2))
  have ek := atI_mapD spD (room_at (r := r) (i := k) (by rw [hr.1]; exact h3))
  rcases trend_at hr h1 with a | a | a <;> rcases trend_at hr h2 with b | b | b <;> rcases trend_at hr h3 with c | c | c <;>
    simp [F__law_keeps, m__law_keeps, bodyP, bodyL, bodyR, bodyX, bodyT, slots, slotsR, ssT, sSeq, sIf, sNx, sRet, sRetL, sRetO, sRetX, sSet, sSetX, sOwn, sApp, sExt, sClr, sDrop, sDropX, sTgt, sFor, sFrz, frz, sRow, sTry, sRaise, noAt, noRow, mBor, mTst, mAnd, mOr, mNot, mIf, mAndV, mOrV, mNotV, mChain, m1, m2, bnd, opt, pur, mVar, mC, mCons, mNil, mTup, mLst, mList, mCall, mCallL, mCallX, mCallR, mOk, mHse, mMake, mSl, mSome, mNone, mSeq, mEn, mRg1, mRg2, mZ3, mLc, mLc2, mYes, mIxV, mInO, mRow1, mRow2, mRowLen, mRowAt, dats, putS, gNm, gTp, gsCons, gsNil, seqD, addD, subD, subI, mulD, fdivD, fdivI, modD, modI, negD, i2, ltD, ltI, leD, leI, gtD, gtI, geD, geI, eqD, neD, isND, notND, inD, ninD, ixD, slD, lenD, tupleD, listD, intD, lstD, isiD, isi2D, tyN, isTy, noOwn, wipeS, rmD, tieD, atI_0, atI_1, atI_2, atI_3, ei, ej, ek, spD, eq_str, eq_int, dec_lit, in_two, keepB, a, b, c, lcGo, sgn] <;> rfl
end Law
/-! The first tie that is not kept; spots; all rooms; rooms. -/
namespace Law
open PySem L2 FL
theorem lkeeps_val {ts : List Thing} {r : List Spot} (hr : RoomOk ts.length r) {t : Tie} (ht : TieOk ts t) : F__law_keeps [.dat (tieD t), .dat (rmD r)] = some (.dat (.bool (keepB r t))) := by
  cases t with
  | rate i j m => exact lkeeps_rate hr ht
  | edge o i m => exact lkeeps_edge hr ht
  | two a i j => exact lkeeps_two hr ht
  | three p i j k => cases p with
    | true => exact lkeeps_prod hr ht
    | false => exact lkeeps_sum hr ht
/-- the number of the first tie that is not kept -/
def firstB (r : List Spot) : List Tie → Nat → Option Nat
  | [], _ => none
  | t :: ts, k => if keepB r t = true then firstB r ts (k + 1) else some k
def optD : Option Nat → PyData
  | none => .none
  | some k => .int k
theorem first_go {ts : List Thing} {r : List Spot} (hr : RoomOk ts.length r) (A : Sl) : ∀ (ties : List Tie) (k : Nat) (s2 s3 : Sl) (rw : Ro), (∀ t ∈ ties, TieOk ts t) →
    ∃ s2' s3', forGo (gTp 2 (gsCons (gNm 2) (gsCons (gNm 3) gsNil))) (sIf (mNot (mTst (mCall F_keeps (mCons (mVar 1) (mCons (mVar 3) mNil))))) (sRet (mVar 2)) sNx) (((ties.map tieD).zipIdx k).map fun p => .tuple [.int (p.2 : Nat), p.1]) [A, .vl (.dat (rmD r)), s2, s3] rw =
      match firstB r ties k with
      | none => some (.nx [A, .vl (.dat (rmD r)), s2', s3'] rw)
      | some i => some (.rt (.dat (.int (i : Nat))) rw)
  | [], k, s2, s3, rw, _ => ⟨s2, s3, rfl⟩
  | t :: ties, k, s2, s3, rw, h => by
    have hk := keeps_val hr (h t List.mem_cons_self)
    rw [List.map_cons, List.zipIdx_cons, List.map_cons]
    have g1 : gTp 2 (gsCons (gNm 2) (gsCons (gNm 3) gsNil)) (.tuple [.int (k : Nat), tieD t]) [A, .vl (.dat (rmD r)), s2, s3] = some [A, .vl (.dat (rmD r)), .vl (.dat (.int (k : Nat))), .vl (.dat (tieD t))] := by
      simp [gTp, gsCons, gNm, gsNil, putS]
    unfold firstB
    cases e : keepB r t with
    | true =>
      obtain ⟨a, b, ih⟩ := first_go hr A ties (k + 1) (.vl (.dat (.int (k : Nat)))) (.vl (.dat (tieD t))) rw fun z hz => h z (List.mem_cons_of_mem _ hz)
      refine ⟨a, b, ?_⟩
      rw [forGo_step g1 (ss2 := [A, .vl (.dat (rmD r)), .vl (.dat (.int (k : Nat))), .vl (.dat (tieD t))]) (rw2 := rw) (by simp [bodyP, bodyL, bodyR, bodyX, bodyT, slots, slotsR, ssT, sSeq, sIf, sNx, sRet, sRetL, sRetO, sRetX, sSet, sSetX, sOwn, sApp, sExt, sClr, sDrop, sDropX, sTgt, sFor, sFrz, frz, sRow, sTry, sRaise, noAt, noRow, mBor, mTst, mAnd, mOr, mNot, mIf, mAndV, mOrV, mNotV, mChain, m1, m2, bnd, opt, pur, mVar, mC, mCons, mNil, mTup, mLst, mList, mCall, mCallL, mCallX, mCallR, mOk, mHse, mMake, mSl, mSome, mNone, mSeq, mEn, mRg1, mRg2, mZ3, mLc, mLc2, mYes, mIxV, mInO, mRow1, mRow2, mRowLen, mRowAt, dats, putS, gNm, gTp, gsCons, gsNil, seqD, addD, subD, subI, mulD, fdivD, fdivI, modD, modI, negD, i2, ltD, ltI, leD, leI, gtD, gtI, geD, geI, eqD, neD, isND, notND, inD, ninD, ixD, slD, lenD, tupleD, listD, intD, lstD, isiD, isi2D, tyN, isTy, noOwn, wipeS, hk, e]), ih]
      simp
    | false =>
      refine ⟨s2, s3, ?_⟩
      rw [forGo_ret g1 (v := .dat (.int (k : Nat))) (rw2 := rw) (by simp [bodyP, bodyL, bodyR, bodyX, bodyT, slots, slotsR, ssT, sSeq, sIf, sNx, sRet, sRetL, sRetO, sRetX, sSet, sSetX, sOwn, sApp, sExt, sClr, sDrop, sDropX, sTgt, sFor, sFrz, frz, sRow, sTry, sRaise, noAt, noRow, mBor, mTst, mAnd, mOr, mNot, mIf, mAndV, mOrV, mNotV, mChain, m1, m2, bnd, opt, pur, mVar, mC, mCons, mNil, mTup, mLst, mList, mCall, mCallL, mCallX, mCallR, mOk, mHse, mMake, mSl, mSome, mNone, mSeq, mEn, mRg1, mRg2, mZ3, mLc, mLc2, mYes, mIxV, mInO, mRow1, mRow2, mRowLen, mRowAt, dats, putS, gNm, gTp, gsCons, gsNil, seqD, addD, subD, subI, mulD, fdivD, fdivI, modD, modI, negD, i2, ltD, ltI, leD, leI, gtD, gtI, geD, geI, eqD, neD, isND, notND, inD, ninD, ixD, slD, lenD, tupleD, listD, intD, lstD, isiD, isi2D, tyN, isTy, noOwn, wipeS, hk, e])]
      simp
theorem first_val {ts : List Thing} {r : List Spot} (hr : RoomOk ts.length r) {ties : List Tie} (h : ∀ t ∈ ties, TieOk ts t) : F_first_broken [.dat (tisD ties), .dat (rmD r)] = some (.dat (optD (firstB r ties 0))) := by
  obtain ⟨a, b, e⟩ := first_go hr (.vl (.dat (tisD ties))) ties 0 .no .no (0, 0) h
  have e1 : mEn (mVar 0) (slots 4 [.dat (tisD ties), .dat (rmD r)]) (0, 0) = some ((((ties.map tieD).zipIdx 0).map fun p => .tuple [.int (p.2 : Nat), p.1]), (0, 0)) := rfl
  have e2 := (for_eq (g := gTp 2 (gsCons (gNm 2) (gsCons (gNm 3) gsNil))) (b := sIf (mNot (mTst (mCall F_keeps (mCons (mVar 1) (mCons (mVar 3) mNil))))) (sRet (mVar 2)) sNx) e1).trans e
  cases q : firstB r ties 0 with
  | none =>
    rw [q] at e2
    exact bodyP_rt (v := .dat .none) (rw := (0, 0)) rfl ((seq_nx e2).trans rfl)
  | some i =>
    rw [q] at e2
    exact bodyP_rt rfl (seq_rt e2)
theorem lfirst_go {ts : List Thing} {r : List Spot} (hr : RoomOk ts.length r) (all : List Tie) : ∀ (ties : List Tie) (k : Nat) (s2 : Sl) (rw : Ro), (∀ t ∈ ties, TieOk ts t) → all.drop k = ties →
    ∃ s2', forGo (gNm 2) (sIf (mNot (mTst (mCall F__law_keeps (mCons (m2 ixD (mVar 0) (mVar 2)) (mCons (mVar 1) mNil))))) (sRet (mVar 2)) sNx) ((List.range' k ties.length).map fun i => .int (i : Nat)) [.vl (.dat (tisD all)), .vl (.dat (rmD r)), s2] rw =
      match firstB r ties k with
      | none => some (.nx [.vl (.dat (tisD all)), .vl (.dat (rmD r)), s2'] rw)
      | some i => some (.rt (.dat (.int (i : Nat))) rw)
  | [], k, s2, rw, _, _ => ⟨s2, rfl⟩
  | t :: ties, k, s2, rw, h, hd => by
    have hk := lkeeps_val hr (h t List.mem_cons_self)
    have at_ : all[k]? = some t := by
      have := congrArg (·[0]?) hd
      simpa using this
    have ea := atI_mapD tieD at_
    rw [List.length_cons, List.range'_succ, List.map_cons]
    have g1 : gNm 2 (.int (k : Nat)) [.vl (.dat (tisD all)), .vl (.dat (rmD r)), s2] = some [.vl (.dat (tisD all)), .vl (.dat (rmD r)), .vl (.dat (.int (k : Nat)))] := by
      simp [gNm, putS]
    unfold firstB
    cases e : keepB r t with
    | true =>
      obtain ⟨a, ih⟩ := lfirst_go hr all ties (k + 1) (.vl (.dat (.int (k : Nat)))) rw (fun z hz => h z (List.mem_cons_of_mem _ hz)) (by
        have := congrArg (List.drop 1) hd
        simpa [List.drop_drop, Nat.add_comm] using this)
      refine ⟨a, ?_⟩
      rw [forGo_step g1 (ss2 := [.vl (.dat (tisD all)), .vl (.dat (rmD r)), .vl (.dat (.int (k : Nat)))]) (rw2 := rw) (by simp [bodyP, bodyL, bodyR, bodyX, bodyT, slots, slotsR, ssT, sSeq, sIf, sNx, sRet, sRetL, sRetO, sRetX, sSet, sSetX, sOwn, sApp, sExt, sClr, sDrop, sDropX, sTgt, sFor, sFrz, frz, sRow, sTry, sRaise, noAt, noRow, mBor, mTst, mAnd, mOr, mNot, mIf, mAndV, mOrV, mNotV, mChain, m1, m2, bnd, opt, pur, mVar, mC, mCons, mNil, mTup, mLst, mList, mCall, mCallL, mCallX, mCallR, mOk, mHse, mMake, mSl, mSome, mNone, mSeq, mEn, mRg1, mRg2, mZ3, mLc, mLc2, mYes, mIxV, mInO, mRow1, mRow2, mRowLen, mRowAt, dats, putS, gNm, gTp, gsCons, gsNil, seqD, addD, subD, subI, mulD, fdivD, fdivI, modD, modI, negD, i2, ltD, ltI, leD, leI, gtD, gtI, geD, geI, eqD, neD, isND, notND, inD, ninD, ixD, slD, lenD, tupleD, listD, intD, lstD, isiD, isi2D, tyN, isTy, noOwn, wipeS, tisD, ea, hk, e]), ih]
      simp
    | false =>
      refine ⟨s2, ?_⟩
      rw [forGo_ret g1 (v := .dat (.int (k : Nat))) (rw2 := rw) (by simp [bodyP, bodyL, bodyR, bodyX, bodyT, slots, slotsR, ssT, sSeq, sIf, sNx, sRet, sRetL, sRetO, sRetX, sSet, sSetX, sOwn, sApp, sExt, sClr, sDrop, sDropX, sTgt, sFor, sFrz, frz, sRow, sTry, sRaise, noAt, noRow, mBor, mTst, mAnd, mOr, mNot, mIf, mAndV, mOrV, mNotV, mChain, m1, m2, bnd, opt, pur, mVar, mC, mCons, mNil, mTup, mLst, mList, mCall, mCallL, mCallX, mCallR, mOk, mHse, mMake, mSl, mSome, mNone, mSeq, mEn, mRg1, mRg2, mZ3, mLc, mLc2, mYes, mIxV, mInO, mRow1, mRow2, mRowLen, mRowAt, dats, putS, gNm, gTp, gsCons, gsNil, seqD, addD, subD, subI, mulD, fdivD, fdivI, modD, modI, negD, i2, ltD, ltI, leD, leI, gtD, gtI, geD, geI, eqD, neD, isND, notND, inD, ninD, ixD, slD, lenD, tupleD, listD, intD, lstD, isiD, isi2D, tyN, isTy, noOwn, wipeS, tisD, ea, hk, e])]
      simp
theorem lfirst_val {ts : List Thing} {r : List Spot} (hr : RoomOk ts.length r) {ties : List Tie} (h : ∀ t ∈ ties, TieOk ts t) (hl : ties.length ≤ 1000) : F__law_first [.dat (tisD ties), .dat (rmD r)] = some (.dat (optD (firstB r ties 0))) := by
  obtain ⟨a, e⟩ := lfirst_go hr ties ties 0 .no (0, 0) h rfl
  have e1 : mRg1 (m1 lenD (mVar 0)) (slots 3 [.dat (tisD ties), .dat (rmD r)]) (0, 0) = some ((List.range' 0 ties.length).map fun i => .int (i : Nat), (0, 0)) := by
    have h2 : (-1000000 : Int) ≤ (ties.length : Int) ∧ (ties.length : Int) ≤ 1000000 := by omega
    simp [bodyP, bodyL, bodyR, bodyX, bodyT, slots, slotsR, ssT, sSeq, sIf, sNx, sRet, sRetL, sRetO, sRetX, sSet, sSetX, sOwn, sApp, sExt, sClr, sDrop, sDropX, sTgt, sFor, sFrz, frz, sRow, sTry, sRaise, noAt, noRow, mBor, mTst, mAnd, mOr, mNot, mIf, mAndV, mOrV, mNotV, mChain, m1, m2, bnd, opt, pur, mVar, mC, mCons, mNil, mTup, mLst, mList, mCall, mCallL, mCallX, mCallR, mOk, mHse, mMake, mSl, mSome, mNone, mSeq, mEn, mRg1, mRg2, mZ3, mLc, mLc2, mYes, mIxV, mInO, mRow1, mRow2, mRowLen, mRowAt, dats, putS, gNm, gTp, gsCons, gsNil, seqD, addD, subD, subI, mulD, fdivD, fdivI, modD, modI, negD, i2, ltD, ltI, leD, leI, gtD, gtI, geD, geI, eqD, neD, isND, notND, inD, ninD, ixD, slD, lenD, tupleD, listD, intD, lstD, isiD, isi2D, tyN, isTy, noOwn, wipeS, tisD, h2, rgD_map, List.range_eq_range']
  have e2 := (for_eq (g := gNm 2) (b := sIf (mNot (mTst (mCall F__law_keeps (mCons (m2 ixD (mVar 0) (mVar 2)) (mCons (mVar 1) mNil))))) (sRet (mVar 2)) sNx) e1).trans e
  cases q : firstB r ties 0 with
  | none =>
    rw [q] at e2
    exact bodyP_rt (v := .dat .none) (rw := (0, 0)) rfl ((seq_nx e2).trans rfl)
  | some i =>
    rw [q] at e2
    exact bodyP_rt rfl (seq_rt e2)
/-! ### spots -/
def spotsOf (n : Nat) : List Spot := (List.range (2 * n + 1)).flatMap fun (p : Nat) => if p % 2 = 1 then [((p : Int), 0)] else [((p : Int), -1), ((p : Int), 0), ((p : Int), 1)]
theorem spots_trend {n : Nat} {s : Spot} (h : s ∈ spotsOf n) : Trend s.2 := by
  unfold spotsOf at h
  rw [List.mem_flatMap] at h
  obtain ⟨p, _, h⟩ := h
  split at h
  · simp at h; subst h; exact .inr (.inl rfl)
  · simp at h
    rcases h with rfl | rfl | rfl
    · exact .inl rfl
    · exact .inr (.inl rfl)
    · exact .inr (.inr rfl)
theorem three_cases {ms : List Int} (h1 : 1 ≤ ms.length) (h3 : ms.length ≤ 3) : (∃ a, ms = [a]) ∨ (∃ a b, ms = [a, b]) ∨ ∃ a b c, ms = [a, b, c] := by
  match ms, h1, h3 with
  | [a], _, _ => exact .inl ⟨a, rfl⟩
  | [a, b], _, _ => exact .inr (.inl ⟨a, b, rfl⟩)
  | [a, b, c], _, _ => exact .inr (.inr ⟨a, b, c, rfl⟩)
theorem states_1 (a : Int) : F_states [.dat (mkD [a])] = some (.dat (.list ((spotsOf 1).map spD))) := by kernel_rfl
theorem states_2 (a b : Int) : F_states [.dat (mkD [a, b])] = some (.dat (.list ((spotsOf 2).map spD))) := by kernel_rfl
theorem states_3 (a b c : Int) : F_states [.dat (mkD [a, b, c])] = some (.dat (.list ((spotsOf 3).map spD))) := by kernel_rfl
theorem states_val {ms : List Int} (h1 : 1 ≤ ms.length) (h3 : ms.length ≤ 3) : F_states [.dat (mkD ms)] = some (.dat (.list ((spotsOf ms.length).map spD))) := by
  rcases three_cases h1 h3 with ⟨a, rfl⟩ | ⟨a, b, rfl⟩ | ⟨a, b, c, rfl⟩
  · exact states_1 a
  · exact states_2 a b
  · exact states_3 a b c
theorem lspots_1 (a : Int) : F__law_spots [.dat (mkD [a])] = some (.dat (.list ((spotsOf 1).map spD))) := by kernel_rfl
theorem lspots_2 (a b : Int) : F__law_spots [.dat (mkD [a, b])] = some (.dat (.list ((spotsOf 2).map spD))) := by kernel_rfl
theorem lspots_3 (a b c : Int) : F__law_spots [.dat (mkD [a, b, c])] = some (.dat (.list ((spotsOf 3).map spD))) := by kernel_rfl
theorem lspots_val {ms : List Int} (h1 : 1 ≤ ms.length) (h3 : ms.length ≤ 3) : F__law_spots [.dat (mkD ms)] = some (.dat (.list ((spotsOf ms.length).map spD))) := by
  rcases three_cases h1 h3 with ⟨a, rfl⟩ | ⟨a, b, rfl⟩ | ⟨a, b, c, rfl⟩
  · exact lspots_1 a
  · exact lspots_2 a b
  · exact lspots_3 a b c
theorem spots_len {n : Nat} (h : n ≤ 3) : (spotsOf n).length ≤ 15 ∧ 0 < (spotsOf n).length := by
  match n, h with
  | 0, _ => exact ⟨by decide, by decide⟩
  | 1, _ => exact ⟨by decide, by decide⟩
  | 2, _ => exact ⟨by decide, by decide⟩
  | 3, _ => exact ⟨by decide, by decide⟩
end Law
/-! Rooms made spot by spot; one of each. -/
namespace Law
open PySem L2 FL
def growR (found : List (List Spot)) (n : Nat) : List (List Spot) := found.flatMap fun r => (spotsOf n).map fun s => r ++ [s]
def goR (ts : List Thing) (found : List (List Spot)) : List (List Spot) := ts.foldl (fun f t => growR f t.2.length) found
def allR (ts : List Thing) : List (List Spot) := goR ts [[]]
def roomsOf (ts : List Thing) (ties : List Tie) : List (List Spot) := (allR ts).filter fun r => (firstB r ties 0).isNone
/-- things with one to three marks each -/
def Marked (ts : List Thing) : Prop := ∀ t ∈ ts, 1 ≤ t.2.length ∧ t.2.length ≤ 3
theorem grow_len {found : List (List Spot)} {n : Nat} (hn : n ≤ 3) : (growR found n).length ≤ found.length * 15 := by
  unfold growR
  induction found with
  | nil => simp
  | cons r rs ih =>
    rw [List.flatMap_cons, List.length_append, List.length_map, List.length_cons]
    have := (spots_len hn).1
    omega
theorem grow_ok {found : List (List Spot)} {n k : Nat} (h : ∀ r ∈ found, RoomOk k r) : ∀ r ∈ growR found n, RoomOk (k + 1) r := fun r hr => by
  unfold growR at hr
  rw [List.mem_flatMap] at hr
  obtain ⟨q, hq, hr⟩ := hr
  rw [List.mem_map] at hr
  obtain ⟨s, hs, rfl⟩ := hr
  obtain ⟨h1, h2⟩ := h q hq
  refine ⟨by simp [h1], fun z hz => ?_⟩
  rcases List.mem_append.mp hz with hz | hz
  · exact h2 z hz
  · simp at hz
    subst hz
    exact spots_trend hs
theorem go_ok : ∀ (ts : List Thing) (found : List (List Spot)) (k : Nat), (∀ r ∈ found, RoomOk k r) → ∀ r ∈ goR ts found, RoomOk (k + ts.length) r
  | [], found, k, h => fun r hr => h r hr
  | t :: ts, found, k, h => fun r hr => by
    have := go_ok ts (growR found t.2.length) (k + 1) (grow_ok h) r hr
    rw [List.length_cons]
    have e : k + (ts.length + 1) = k + 1 + ts.length := by omega
    rw [e]
    exact this
theorem all_ok {ts : List Thing} {r : List Spot} (h : r ∈ allR ts) : RoomOk ts.length r := by
  have := go_ok ts [[]] 0 (fun r hr => by simp at hr; subst hr; exact ⟨rfl, fun s hs => by cases hs⟩) r h
  rw [Nat.zero_add] at this
  exact this
/-- one + (spot,) -/
theorem room_add {r : List Spot} (s : Spot) (h : r.length ≤ 10) : addD (.dat (rmD r)) (.dat (.tuple [spD s])) = some (.dat (rmD (r ++ [s]))) := by
  have e : r.length + 1 ≤ 100000 := by omega
  simp [addD, rmD, e]
/-! ### one of each -/
def growC (found : List (List Spot)) (c : List Spot) : List (List Spot) := found.flatMap fun r => c.map fun s => r ++ [s]
def prodC (cs : List (List Spot)) (found : List (List Spot)) : List (List Spot) := cs.foldl growC found
def chD (c : List Spot) : PyData := .list (c.map spD)
theorem growC_len {found : List (List Spot)} {c : List Spot} (hc : c.length ≤ 15) : (growC found c).length ≤ found.length * 15 := by
  unfold growC
  induction found with
  | nil => simp
  | cons r rs ih =>
    rw [List.flatMap_cons, List.length_append, List.length_map, List.length_cons]
    omega
theorem growC_mem {found : List (List Spot)} {c : List Spot} {r : List Spot} : r ∈ growC found c ↔ ∃ q ∈ found, ∃ s ∈ c, r = q ++ [s] := by
  unfold growC
  rw [List.mem_flatMap]
  constructor
  · rintro ⟨q, hq, h⟩
    obtain ⟨s, hs, rfl⟩ := List.mem_map.mp h
    exact ⟨q, hq, s, hs, rfl⟩
  · rintro ⟨q, hq, s, hs, rfl⟩
    exact ⟨q, hq, List.mem_map.mpr ⟨s, hs, rfl⟩⟩
theorem growC_lens {found : List (List Spot)} {c : List Spot} {k : Nat} (h : ∀ r ∈ found, r.length = k) : ∀ r ∈ growC found c, r.length = k + 1 := fun r hr => by
  obtain ⟨q, hq, s, _, rfl⟩ := growC_mem.mp hr
  rw [List.length_append, h q hq]
  rfl
theorem cho_go {A S1 : Sl} {c : List Spot} (hc : c.length ≤ 15) {rw : Ro} (found : List (List Spot)) : ∀ (n : Nat), (∀ r ∈ found, r.length ≤ 10) → found.length * 15 ≤ n →
    lcGo2 (gNm 3) (mSeq (mVar 2)) [4] (gNm 4) mYes (m2 addD (mVar 3) (mTup (mCons (mVar 4) mNil))) [A, S1, .vl (.dat (chD c)), .no, .no] (found.map rmD) n rw = some ((growC found c).map rmD, rw) := by
  induction found with
  | nil => intro n _ _; rfl
  | cons r found ih =>
    intro n h hn
    rw [List.length_cons] at hn
    have ih := ih (n - c.length) (fun q hq => h q (List.mem_cons_of_mem _ hq)) (by omega)
    have hr := h r List.mem_cons_self
    have inner : lcGo (gNm 4) mYes (m2 addD (mVar 3) (mTup (mCons (mVar 4) mNil))) [A, S1, .vl (.dat (chD c)), .vl (.dat (rmD r)), .no] (c.map spD) rw = some ((c.map fun s => rmD (r ++ [s])), rw) := by
      have := lcGo_map (g := gNm 4) (tt := mYes) (te := m2 addD (mVar 3) (mTup (mCons (mVar 4) mNil))) (ss := [A, S1, .vl (.dat (chD c)), .vl (.dat (rmD r)), .no]) (rw := rw) spD (fun s => rmD (r ++ [s])) (fun _ => true) c fun s _ => by
        refine ⟨[A, S1, .vl (.dat (chD c)), .vl (.dat (rmD r)), .vl (.dat (spD s))], rfl, rfl, fun _ => ?_⟩
        have ea := room_add s hr
        simp [m2, mTup, mCons, mNil, mVar, bnd, opt, pur, dats, ea]
      rw [List.filter_eq_self.mpr (fun _ _ => rfl)] at this
      exact this
    have src : mSeq (mVar 2) [A, S1, .vl (.dat (chD c)), .vl (.dat (rmD r)), .no] rw = some (c.map spD, rw) := rfl
    rw [List.map_cons]
    have hle : (c.map spD).length ≤ n := by
      rw [List.length_map]
      omega
    rw [lcGo2_cons (ss1 := [A, S1, .vl (.dat (chD c)), .vl (.dat (rmD r)), .no]) (by simp [gNm, putS]) (by simp [noOwn]) src hle inner (by rw [List.length_map]; exact ih)]
    simp [growC]
theorem one_go (A : Sl) : ∀ (cs : List (List Spot)) (found : List (List Spot)) (s2 : Sl) (k : Nat) (rw : Ro), (∀ c ∈ cs, c.length ≤ 15) → (∀ r ∈ found, r.length = k) → k + cs.length ≤ 10 → found.length * 15 ^ cs.length ≤ 100000 → noOwn [A, .vl (.dat (.list (found.map rmD))), s2, .no, .no] [3, 4] = true →
    ∃ s2', forGo (gNm 2) (sSet 1 (mList (mLc2 [3, 4] (mSeq (mVar 1)) (gNm 3) (mSeq (mVar 2)) [4] (gNm 4) mYes (m2 addD (mVar 3) (mTup (mCons (mVar 4) mNil)))))) (cs.map chD) [A, .vl (.dat (.list (found.map rmD))), s2, .no, .no] rw =
      some (.nx [A, .vl (.dat (.list ((prodC cs found).map rmD))), s2', .no, .no] rw)
  | [], found, s2, k, rw, _, _, _, _, _ => ⟨s2, rfl⟩
  | c :: cs, found, s2, k, rw, hm, hf, hk, hl, hno => by
    have h15 := hm c List.mem_cons_self
    rw [List.length_cons] at hk
    have hp : 1 ≤ 15 ^ cs.length := Nat.one_le_pow _ _ (by decide)
    have hl1 : found.length * 15 * 15 ^ cs.length ≤ 100000 := by
      rw [List.length_cons, Nat.pow_succ] at hl
      rw [Nat.mul_assoc, Nat.mul_comm 15]
      exact hl
    have hl0 : found.length * 15 ≤ 100000 := Nat.le_trans (Nat.le_mul_of_pos_right _ hp) hl1
    have hno2 : noOwn [A, .vl (.dat (.list (found.map rmD))), .vl (.dat (chD c)), .no, .no] [3, 4] = true := hno
    have two := cho_go (A := A) (S1 := .vl (.dat (.list (found.map rmD)))) h15 (rw := rw) found 100000 (fun r hr => by have := hf r hr; omega) hl0
    have step : sSet 1 (mList (mLc2 [3, 4] (mSeq (mVar 1)) (gNm 3) (mSeq (mVar 2)) [4] (gNm 4) mYes (m2 addD (mVar 3) (mTup (mCons (mVar 4) mNil))))) [A, .vl (.dat (.list (found.map rmD))), .vl (.dat (chD c)), .no, .no] rw =
        some (.nx [A, .vl (.dat (.list ((growC found c).map rmD))), .vl (.dat (chD c)), .no, .no] rw) := by
      have e : mLc2 [3, 4] (mSeq (mVar 1)) (gNm 3) (mSeq (mVar 2)) [4] (gNm 4) mYes (m2 addD (mVar 3) (mTup (mCons (mVar 4) mNil))) [A, .vl (.dat (.list (found.map rmD))), .vl (.dat (chD c)), .no, .no] rw = some ((growC found c).map rmD, rw) := by
        unfold mLc2
        rw [if_pos hno2]
        exact two
      exact set_eq (list_eq e) (by simp)
    have hlen : (growC found c).length * 15 ^ cs.length ≤ 100000 := Nat.le_trans (Nat.mul_le_mul_right _ (growC_len h15)) hl1
    obtain ⟨a, ih⟩ := one_go A cs (growC found c) (.vl (.dat (chD c))) (k + 1) rw (fun q hq => hm q (List.mem_cons_of_mem _ hq)) (growC_lens hf) (by omega) hlen hno
    refine ⟨a, ?_⟩
    rw [List.map_cons, forGo_step rfl step, ih]
    rfl
theorem one_val {cs : List (List Spot)} (h15 : ∀ c ∈ cs, c.length ≤ 15) (hl : cs.length ≤ 3) : F_one_of_each [.dat (.list (cs.map chD))] = some (.dat (.list ((prodC cs [[]]).map rmD))) := by
  have hp : (([[]] : List (List Spot)).length * 15 ^ cs.length) ≤ 100000 := by
    have : (15 : Nat) ^ cs.length ≤ 15 ^ 3 := Nat.pow_le_pow_right (by decide) hl
    simp
    omega
  obtain ⟨a, e⟩ := one_go (.vl (.dat (.list (cs.map chD)))) cs [[]] .no 0 (0, 0) h15 (fun r hr => by simp at hr; subst hr; rfl) (by omega) hp rfl
  have e1 : mSeq (mVar 0) [.vl (.dat (.list (cs.map chD))), .vl (.dat (.list [rmD []])), .no, .no, .no] (0, 0) = some (cs.map chD, (0, 0)) := rfl
  refine bodyP_rt (v := .dat (.list ((prodC cs [[]]).map rmD))) (rw := (0, 0)) rfl ?_
  exact (seq_nx (ss1 := [.vl (.dat (.list (cs.map chD))), .vl (.dat (.list [rmD []])), .no, .no, .no]) (rw1 := (0, 0)) rfl).trans ((seq_nx ((for_eq e1).trans e)).trans rfl)
theorem prodC_go : ∀ (ts : List Thing) (found : List (List Spot)), prodC (ts.map fun t => spotsOf t.2.length) found = goR ts found
  | [], _ => rfl
  | t :: ts, found => prodC_go ts (growR found t.2.length)
end Law
/-! The law's rooms; alike. -/
namespace Law
open PySem L2 FL
theorem lgrow_go {A B C S3 : Sl} {ms : List Int} (h1 : 1 ≤ ms.length) (h3 : ms.length ≤ 3) {rw : Ro} {S8 : Sl} (found : List (List Spot)) : ∀ (acc : List (List Spot)) (s6 : Sl), (∀ r ∈ found, r.length ≤ 10) → acc.length + found.length * 15 ≤ 100000 →
    ∃ s6', forGo (gNm 6) (sExt 5 (mList (mLc [7] (mSeq (mCall F__law_spots (mCons (mVar 4) mNil))) (gNm 7) mYes (m2 addD (mVar 6) (mTup (mCons (mVar 7) mNil)))))) (found.map rmD) [A, B, C, S3, .vl (.dat (mkD ms)), .own (acc.map rmD), s6, .no, S8] rw =
      some (.nx [A, B, C, S3, .vl (.dat (mkD ms)), .own ((acc ++ growR found ms.length).map rmD), s6', .no, S8] rw) := by
  have hs := spots_len h3
  have sv := lspots_val h1 h3
  generalize spE : spotsOf ms.length = spots at hs sv
  induction found with
  | nil => intro acc s6 _ _; exact ⟨s6, by rw [growR, List.flatMap_nil, List.append_nil]; rfl⟩
  | cons r found ih =>
    intro acc s6 h hn
    rw [List.length_cons] at hn
    have hr := h r List.mem_cons_self
    obtain ⟨s6', ih⟩ := ih (acc ++ spots.map fun s => r ++ [s]) (.vl (.dat (rmD r))) (fun q hq => h q (List.mem_cons_of_mem _ hq)) (by rw [List.length_append, List.length_map]; omega)
    refine ⟨s6', ?_⟩
    have inner : lcGo (gNm 7) mYes (m2 addD (mVar 6) (mTup (mCons (mVar 7) mNil))) [A, B, C, S3, .vl (.dat (mkD ms)), .own (acc.map rmD), .vl (.dat (rmD r)), .no, S8] (spots.map spD) rw = some ((spots.map fun s => rmD (r ++ [s])), rw) := by
      have := lcGo_map (g := gNm 7) (tt := mYes) (te := m2 addD (mVar 6) (mTup (mCons (mVar 7) mNil))) (ss := [A, B, C, S3, .vl (.dat (mkD ms)), .own (acc.map rmD), .vl (.dat (rmD r)), .no, S8]) (rw := rw) spD (fun s => rmD (r ++ [s])) (fun _ => true) spots fun s _ => by
        refine ⟨[A, B, C, S3, .vl (.dat (mkD ms)), .own (acc.map rmD), .vl (.dat (rmD r)), .vl (.dat (spD s)), S8], rfl, rfl, fun _ => ?_⟩
        have ea := room_add s hr
        simp [m2, mTup, mCons, mNil, mVar, bnd, opt, pur, dats, ea]
      rw [List.filter_eq_self.mpr (fun _ _ => rfl)] at this
      exact this
    have src : mSeq (mCall F__law_spots (mCons (mVar 4) mNil)) [A, B, C, S3, .vl (.dat (mkD ms)), .own (acc.map rmD), .vl (.dat (rmD r)), .no, S8] rw = some (spots.map spD, rw) := seq_eq (call_eq rfl sv) rfl
    have lc : mLc [7] (mSeq (mCall F__law_spots (mCons (mVar 4) mNil))) (gNm 7) mYes (m2 addD (mVar 6) (mTup (mCons (mVar 7) mNil))) [A, B, C, S3, .vl (.dat (mkD ms)), .own (acc.map rmD), .vl (.dat (rmD r)), .no, S8] rw = some ((spots.map fun s => rmD (r ++ [s])), rw) :=
      (lc_eq (by simp [noOwn]) src (by rw [List.length_map]; omega)).trans inner
    have st := ext_eq (i := 5) (ss := [A, B, C, S3, .vl (.dat (mkD ms)), .own (acc.map rmD), .vl (.dat (rmD r)), .no, S8]) rfl (list_eq lc) (by rw [List.length_map, List.length_map]; omega)
    rw [List.map_cons, forGo_step (ss1 := [A, B, C, S3, .vl (.dat (mkD ms)), .own (acc.map rmD), .vl (.dat (rmD r)), .no, S8]) (by simp [gNm, putS]) st]
    have e1 : (acc.map rmD ++ spots.map fun s => rmD (r ++ [s])) = (acc ++ spots.map fun s => r ++ [s]).map rmD := by
      rw [List.map_append, List.map_map]
      rfl
    have e2 : [A, B, C, S3, .vl (.dat (mkD ms)), .own (acc.map rmD), .vl (.dat (rmD r)), .no, S8].set 5 (.own (acc.map rmD ++ spots.map fun s => rmD (r ++ [s]))) = [A, B, C, S3, .vl (.dat (mkD ms)), .own ((acc ++ spots.map fun s => r ++ [s]).map rmD), .vl (.dat (rmD r)), .no, S8] := by
      rw [e1]
      rfl
    rw [e2, ih]
    simp [growR, spE]
theorem lall_go (A B S8 : Sl) (ts : List Thing) : ∀ (found : List (List Spot)) (s3 s4 s5 s6 : Sl) (k : Nat) (rw : Ro), Marked ts → (∀ r ∈ found, RoomOk k r) → k + ts.length ≤ 10 → found.length * 15 ^ ts.length ≤ 100000 →
    ∃ s3' s4' s5' s6', forGo (gTp 2 (gsCons (gNm 3) (gsCons (gNm 4) gsNil))) (sSeq (sOwn 5 (mLst mNil)) (sSeq (sFor (mSeq (mVar 2)) (gNm 6) (sExt 5 (mList (mLc [7] (mSeq (mCall F__law_spots (mCons (mVar 4) mNil))) (gNm 7) mYes (m2 addD (mVar 6) (mTup (mCons (mVar 7) mNil))))))) (sFrz 5 (sSet 2 (mVar 5))))) (ts.map thD) [A, B, .vl (.dat (.list (found.map rmD))), s3, s4, s5, s6, .no, S8] rw =
      some (.nx [A, B, .vl (.dat (.list ((goR ts found).map rmD))), s3', s4', s5', s6', .no, S8] rw) := by
  induction ts with
  | nil => intro found s3 s4 s5 s6 k rw _ _ _ _; exact ⟨s3, s4, s5, s6, rfl⟩
  | cons t ts ih =>
    intro found s3 s4 s5 s6 k rw hm hf hk hl
    obtain ⟨h1, h3⟩ := hm t List.mem_cons_self
    rw [List.length_cons] at hk
    have hp : 1 ≤ 15 ^ ts.length := Nat.one_le_pow _ _ (by decide)
    have hl1 : found.length * 15 * 15 ^ ts.length ≤ 100000 := by
      rw [List.length_cons, Nat.pow_succ] at hl
      rw [Nat.mul_assoc, Nat.mul_comm 15]
      exact hl
    have hl0 : found.length * 15 ≤ 100000 := Nat.le_trans (Nat.le_mul_of_pos_right _ hp) hl1
    obtain ⟨s6', two⟩ := lgrow_go (A := A) (B := B) (C := .vl (.dat (.list (found.map rmD)))) (S3 := .vl (.dat (.str t.1))) (S8 := S8) h1 h3 (rw := rw) found [] s6 (fun r hr => by have := (hf r hr).1; omega) (by simpa using hl0)
    have hlen : (growR found t.2.length).length * 15 ^ ts.length ≤ 100000 := Nat.le_trans (Nat.mul_le_mul_right _ (grow_len h3)) hl1
    have src : mSeq (mVar 2) [A, B, .vl (.dat (.list (found.map rmD))), .vl (.dat (.str t.1)), .vl (.dat (mkD t.2)), .own [], s6, .no, S8] rw = some (found.map rmD, rw) := seq_eq rfl rfl
    rw [List.nil_append] at two
    have step : sSeq (sOwn 5 (mLst mNil)) (sSeq (sFor (mSeq (mVar 2)) (gNm 6) (sExt 5 (mList (mLc [7] (mSeq (mCall F__law_spots (mCons (mVar 4) mNil))) (gNm 7) mYes (m2 addD (mVar 6) (mTup (mCons (mVar 7) mNil))))))) (sFrz 5 (sSet 2 (mVar 5)))) [A, B, .vl (.dat (.list (found.map rmD))), .vl (.dat (.str t.1)), .vl (.dat (mkD t.2)), s5, s6, .no, S8] rw =
        some (.nx [A, B, .vl (.dat (.list ((growR found t.2.length).map rmD))), .vl (.dat (.str t.1)), .vl (.dat (mkD t.2)), .vl (.dat (.list ((growR found t.2.length).map rmD))), s6', .no, S8] rw) := by
      refine (seq_nx (ss1 := [A, B, .vl (.dat (.list (found.map rmD))), .vl (.dat (.str t.1)), .vl (.dat (mkD t.2)), .own [], s6, .no, S8]) (rw1 := rw) rfl).trans ?_
      refine (seq_nx ((for_eq src).trans two)).trans ?_
      rfl
    obtain ⟨a, b, c, d, ih⟩ := ih (growR found t.2.length) (.vl (.dat (.str t.1))) (.vl (.dat (mkD t.2))) (.vl (.dat (.list ((growR found t.2.length).map rmD)))) s6' (k + 1) rw (fun q hq => hm q (List.mem_cons_of_mem _ hq)) (grow_ok hf) (by omega) hlen
    refine ⟨a, b, c, d, ?_⟩
    rw [List.map_cons, forGo_step (ss1 := [A, B, .vl (.dat (.list (found.map rmD))), .vl (.dat (.str t.1)), .vl (.dat (mkD t.2)), s5, s6, .no, S8]) rfl step, ih]
    rfl
theorem lrooms_val {ts : List Thing} (hm : Marked ts) (hl : ts.length ≤ 3) {ties : List Tie} (ht : ∀ t ∈ ties, TieOk ts t) (hz : (allR ts).length ≤ 100000) (h6 : ties.length ≤ 1000) : F__law_rooms [.dat (thsD ts), .dat (tisD ties)] = some (.dat (.list ((roomsOf ts ties).map rmD))) := by
  have h15 : (([[]] : List (List Spot)).length * 15 ^ ts.length) ≤ 100000 := by
    have : (15 : Nat) ^ ts.length ≤ 15 ^ 3 := Nat.pow_le_pow_right (by decide) hl
    simp
    omega
  obtain ⟨a, b, c, d, e⟩ := lall_go (.vl (.dat (thsD ts))) (.vl (.dat (tisD ties))) .no ts [[]] .no .no .no .no 0 (0, 0) hm (fun r hr => by simp at hr; subst hr; exact ⟨rfl, fun s hs => by cases hs⟩) (by omega) h15
  have e1 : mSeq (mVar 0) [.vl (.dat (thsD ts)), .vl (.dat (tisD ties)), .vl (.dat (.list [rmD []])), .no, .no, .no, .no, .no, .no] (0, 0) = some (ts.map thD, (0, 0)) := rfl
  refine bodyP_rt (v := .dat (.list ((roomsOf ts ties).map rmD))) (rw := (0, 0)) rfl ?_
  refine (seq_nx (ss1 := [.vl (.dat (thsD ts)), .vl (.dat (tisD ties)), .vl (.dat (.list [rmD []])), .no, .no, .no, .no, .no, .no]) (rw1 := (0, 0)) rfl).trans ?_
  refine (seq_nx ((for_eq e1).trans e)).trans ?_
  have go := lcGo_map (g := gNm 8) (tt := mTst (m2 isND (mCall F__law_first (mCons (mVar 1) (mCons (mVar 8) mNil))) (mC .none))) (te := mVar 8) (ss := [.vl (.dat (thsD ts)), .vl (.dat (tisD ties)), .vl (.dat (.list ((goR ts [[]]).map rmD))), a, b, c, d, .no, .no]) (rw := (0, 0)) rmD rmD (fun r => (firstB r ties 0).isNone) (allR ts) fun r hr => by
    have fv := lfirst_val (all_ok hr) ht h6
    refine ⟨[.vl (.dat (thsD ts)), .vl (.dat (tisD ties)), .vl (.dat (.list ((goR ts [[]]).map rmD))), a, b, c, d, .no, .vl (.dat (rmD r))], rfl, ?_, fun _ => rfl⟩
    cases q : firstB r ties 0 with
    | none =>
      rw [q] at fv
      exact tst_eq (m2_eq (call_eq rfl fv) rfl rfl)
    | some i =>
      rw [q] at fv
      exact tst_eq (m2_eq (call_eq rfl fv) rfl rfl)
  have src : mSeq (mVar 2) [.vl (.dat (thsD ts)), .vl (.dat (tisD ties)), .vl (.dat (.list ((goR ts [[]]).map rmD))), a, b, c, d, .no, .no] (0, 0) = some ((allR ts).map rmD, (0, 0)) := rfl
  exact ret_eq (list_eq ((lc_eq (by simp [noOwn]) src (by rw [List.length_map]; exact hz)).trans go))
theorem all_len {ts : List Thing} (hm : Marked ts) (hl : ts.length ≤ 3) : (allR ts).length ≤ 3375 := by
  have go : ∀ (ts : List Thing) (found : List (List Spot)), Marked ts → (goR ts found).length ≤ found.length * 15 ^ ts.length := fun ts => by
    induction ts with
    | nil => intro found _; simp [goR]
    | cons t ts ih =>
      intro found hm
      have h := ih (growR found t.2.length) fun q hq => hm q (List.mem_cons_of_mem _ hq)
      have g := grow_len (found := found) (hm t List.mem_cons_self).2
      have : (growR found t.2.length).length * 15 ^ ts.length ≤ found.length * 15 * 15 ^ ts.length := Nat.mul_le_mul_right _ g
      rw [List.length_cons, Nat.pow_succ, Nat.mul_comm (15 ^ ts.length) 15, ← Nat.mul_assoc]
      exact Nat.le_trans h this
  have h := go ts [[]] hm
  have p : (15 : Nat) ^ ts.length ≤ 15 ^ 3 := Nat.pow_le_pow_right (by decide) hl
  have : (allR ts).length ≤ 1 * 15 ^ ts.length := h
  omega
/-! ### alike -/
end Law
/-! What the script draws: numbers, marks. -/
namespace Law
open PySem L2 FL
theorem taken_val (ns : List Int) {m : Int} (hm : 0 < m) {rw : Ro} (h : 0 ≤ rw.1) : ∃ v rw', F__law_taken ns [.dat (.int m)] rw = some (.dat (.int v), rw') ∧ 0 ≤ v ∧ v < m ∧ 0 ≤ rw'.1 := by
  obtain ⟨c, s⟩ := rw
  simp only at h
  by_cases hc : (ns.length : Int) < c + 1
  · refine ⟨(s * 48271 + 11) % 2147483647 / 7 % m, (c + 1, (s * 48271 + 11) % 2147483647), ?_, Int.emod_nonneg _ (by omega), Int.emod_lt_of_pos _ hm, by simp only; omega⟩
    simp [F__law_taken, m__law_taken, bodyP, bodyL, bodyR, bodyX, bodyT, slots, slotsR, ssT, sSeq, sIf, sNx, sRet, sRetL, sRetO, sRetX, sSet, sSetX, sOwn, sApp, sExt, sClr, sDrop, sDropX, sTgt, sFor, sFrz, frz, sRow, sTry, sRaise, noAt, noRow, mBor, mTst, mAnd, mOr, mNot, mIf, mAndV, mOrV, mNotV, mChain, m1, m2, bnd, opt, pur, mVar, mC, mCons, mNil, mTup, mLst, mList, mCall, mCallL, mCallX, mCallR, mOk, mHse, mMake, mSl, mSome, mNone, mSeq, mEn, mRg1, mRg2, mZ3, mLc, mLc2, mYes, mIxV, mInO, mRow1, mRow2, mRowLen, mRowAt, dats, putS, gNm, gTp, gsCons, gsNil, seqD, addD, subD, subI, mulD, fdivD, fdivI, modD, modI, negD, i2, ltD, ltI, leD, leI, gtD, gtI, geD, geI, eqD, neD, isND, notND, inD, ninD, ixD, slD, lenD, tupleD, listD, intD, lstD, isiD, isi2D, tyN, isTy, noOwn, wipeS, hc, hm]
  · obtain ⟨x, hx⟩ : ∃ x, ns[c.toNat]? = some x := ⟨_, List.getElem?_eq_getElem (by omega)⟩
    have ha : atI ns c = some x := by
      have := atI_nat hx
      rw [Int.toNat_of_nonneg h] at this
      exact this
    refine ⟨x % m, (c + 1, (s * 48271 + x + 11) % 2147483647), ?_, Int.emod_nonneg _ (by omega), Int.emod_lt_of_pos _ hm, by simp only; omega⟩
    simp [F__law_taken, m__law_taken, bodyP, bodyL, bodyR, bodyX, bodyT, slots, slotsR, ssT, sSeq, sIf, sNx, sRet, sRetL, sRetO, sRetX, sSet, sSetX, sOwn, sApp, sExt, sClr, sDrop, sDropX, sTgt, sFor, sFrz, frz, sRow, sTry, sRaise, noAt, noRow, mBor, mTst, mAnd, mOr, mNot, mIf, mAndV, mOrV, mNotV, mChain, m1, m2, bnd, opt, pur, mVar, mC, mCons, mNil, mTup, mLst, mList, mCall, mCallL, mCallX, mCallR, mOk, mHse, mMake, mSl, mSome, mNone, mSeq, mEn, mRg1, mRg2, mZ3, mLc, mLc2, mYes, mIxV, mInO, mRow1, mRow2, mRowLen, mRowAt, dats, putS, gNm, gTp, gsCons, gsNil, seqD, addD, subD, subI, mulD, fdivD, fdivI, modD, modI, negD, i2, ltD, ltI, leD, leI, gtD, gtI, geD, geI, eqD, neD, isND, notND, inD, ninD, ixD, slD, lenD, tupleD, listD, intD, lstD, isiD, isi2D, tyN, isTy, noOwn, wipeS, hc, hm, ha]
/-- a number drawn, in any slot's place -/
theorem draw {ns : List Int} {ma : Mx (List Vl)} {i : Nat} {ss : List Sl} {rw rw1 : Ro} {m : Int} (h0 : ss[i]? = some .row) (h1 : ma ss rw = some ([.dat (.int m)], rw1)) (hm : 0 < m) (h : 0 ≤ rw1.1) :
    ∃ v rw', mCallR i (F__law_taken ns) ma ss rw = some (.dat (.int v), rw') ∧ 0 ≤ v ∧ v < m ∧ 0 ≤ rw'.1 := by
  obtain ⟨v, rw', e, h2, h3, h4⟩ := taken_val ns hm h
  exact ⟨v, rw', callR_eq h0 h1 e, h2, h3, h4⟩
/-- marks as they may be -/
structure MarksOk (ms : List Int) : Prop where
  l1 : 1 ≤ ms.length
  l3 : ms.length ≤ 3
  in_ : ∀ m ∈ ms, -99 ≤ m ∧ m ≤ 99
  gap : ∀ i a b, ms[i]? = some a → ms[i + 1]? = some b → a + 2 ≤ b
/-- the offsets: 0, then gaps of 2 to 61 -/
def OffOk (k : Nat) (os : List Int) : Prop := os.length = k ∧ ∃ d e, os = (match k with | 1 => [0] | 2 => [0, 2 + d] | _ => [0, 2 + d, 2 + d + 2 + e]) ∧ 0 ≤ d ∧ d < 60 ∧ 0 ≤ e ∧ e < 60
theorem tail_marks (ns : List Int) {A B C : Sl} {s4 s5 : Sl} {os : List Int} {last : Int} (hl : os.getLast? = some last) (h0 : 0 ≤ last) (h1 : last ≤ 130) (hlen : os.length ≤ 3) (ho : ∀ o ∈ os, 0 ≤ o ∧ o ≤ last) {rw : Ro} (h : 0 ≤ rw.1) :
    ∃ b rw', sSeq (sSet 5 (m2 subD (mCallR 0 (F__law_taken ns) (mCons (m2 subD (mC (.int 199)) (mIxV 3 (m1 negD (mC (.int 1))))) mNil)) (mC (.int 99)))) (sSeq (sIf (mTst (m2 eqD (mCallR 0 (F__law_taken ns) (mCons (mC (.int 6)) mNil)) (mC (.int 5)))) (sSet 5 (m2 ixD (mList (mLst (mCons (m2 subD (mC (.int 0)) (mC (.int 99))) (mCons (m2 subD (mC (.int 99)) (mIxV 3 (m1 negD (mC (.int 1))))) mNil)))) (mCallR 0 (F__law_taken ns) (mCons (mC (.int 2)) mNil)))) sNx) (sFrz 3 (sRet (m1 tupleD (mList (mLc [6] (mSeq (mVar 3)) (gNm 6) mYes (m2 addD (mVar 5) (mVar 6)))))))) [.row, B, C, .own (os.map .int), s4, s5, .no] rw =
      some (.rt (.dat (mkD (os.map (b + ·)))) rw') ∧ -99 ≤ b ∧ b + last ≤ 99 ∧ 0 ≤ rw'.1 := by
  have hL : (os.map PyData.int).getLast? = some (.int last) := by rw [List.getLast?_map, hl]; rfl
  have aL := atI_last hL
  have ixl : ∀ (s5 : Sl) (rw : Ro), mIxV 3 (m1 negD (mC (.int 1))) [.row, B, C, .own (os.map .int), s4, s5, .no] rw = some (.dat (.int last), rw) := fun s5 rw => by
    simp [mIxV, m1, negD, mC, bnd, opt, pur, aL]
  have a1 : (mCons (m2 subD (mC (.int 199)) (mIxV 3 (m1 negD (mC (.int 1))))) mNil) [.row, B, C, .own (os.map .int), s4, s5, .no] rw = some ([.dat (.int (199 - last))], rw) := cons_eq (m2_eq rfl (ixl s5 rw) rfl) rfl
  obtain ⟨v, rw1, e1, v0, v1, r1⟩ := draw (ns := ns) (i := 0) rfl a1 (by omega) h
  have st1 : sSet 5 (m2 subD (mCallR 0 (F__law_taken ns) (mCons (m2 subD (mC (.int 199)) (mIxV 3 (m1 negD (mC (.int 1))))) mNil)) (mC (.int 99))) [.row, B, C, .own (os.map .int), s4, s5, .no] rw = some (.nx [.row, B, C, .own (os.map .int), s4, .vl (.dat (.int (v - 99))), .no] rw1) :=
    set_eq (m2_eq e1 rfl rfl) (by simp)
  rw [seq_nx st1]
  obtain ⟨u, rw2, e2, u0, u1, r2⟩ := draw (ns := ns) (i := 0) (ma := mCons (mC (.int 6)) mNil) (ss := [.row, B, C, .own (os.map .int), s4, .vl (.dat (.int (v - 99))), .no]) (rw := rw1) rfl rfl (by decide) r1
  have tst : mTst (m2 eqD (mCallR 0 (F__law_taken ns) (mCons (mC (.int 6)) mNil)) (mC (.int 5))) [.row, B, C, .own (os.map .int), s4, .vl (.dat (.int (v - 99))), .no] rw1 = some (decide (u = 5), rw2) :=
    tst_eq (m2_eq e2 rfl (by simp [eqD, eq_int]))
  -- the end, from any begin
  have fin : ∀ (b : Int) (rw : Ro), sFrz 3 (sRet (m1 tupleD (mList (mLc [6] (mSeq (mVar 3)) (gNm 6) mYes (m2 addD (mVar 5) (mVar 6)))))) [.row, B, C, .own (os.map .int), s4, .vl (.dat (.int b)), .no] rw = some (.rt (.dat (mkD (os.map (b + ·)))) rw) := fun b rw => by
    have go := lcGo_map (g := gNm 6) (tt := mYes) (te := m2 addD (mVar 5) (mVar 6)) (ss := [.row, B, C, .vl (.dat (.list (os.map .int))), s4, .vl (.dat (.int b)), .no]) (rw := rw) PyData.int (fun o => .int (b + o)) (fun _ => true) os fun o _ => ⟨[.row, B, C, .vl (.dat (.list (os.map .int))), s4, .vl (.dat (.int b)), .vl (.dat (.int o))], rfl, rfl, fun _ => rfl⟩
    rw [List.filter_eq_self.mpr (fun _ _ => rfl)] at go
    have lc := (lc_eq (vs := [6]) (mi := mSeq (mVar 3)) (g := gNm 6) (tt := mYes) (te := m2 addD (mVar 5) (mVar 6)) (ss := [.row, B, C, .vl (.dat (.list (os.map .int))), s4, .vl (.dat (.int b)), .no]) (rw := rw) rfl rfl (by rw [List.length_map]; omega)).trans go
    have := ret_eq (m1_eq (g := tupleD) (list_eq lc) rfl)
    show sRet (m1 tupleD (mList (mLc [6] (mSeq (mVar 3)) (gNm 6) mYes (m2 addD (mVar 5) (mVar 6))))) [.row, B, C, .vl (.dat (.list (os.map .int))), s4, .vl (.dat (.int b)), .no] rw = _
    rw [this, mkD, List.map_map]
    rfl
  cases hu : decide (u = 5) with
  | false =>
    rw [hu] at tst
    refine ⟨v - 99, rw2, ?_, by omega, by omega, r2⟩
    rw [seq_nx ((ifF tst).trans rfl)]
    exact fin _ _
  | true =>
    rw [hu] at tst
    obtain ⟨z, rw3, e3, z0, z1, r3⟩ := draw (ns := ns) (i := 0) (ma := mCons (mC (.int 2)) mNil) (ss := [.row, B, C, .own (os.map .int), s4, .vl (.dat (.int (v - 99))), .no]) (rw := rw2) rfl rfl (by decide) r2
    have lst : mList (mLst (mCons (m2 subD (mC (.int 0)) (mC (.int 99))) (mCons (m2 subD (mC (.int 99)) (mIxV 3 (m1 negD (mC (.int 1))))) mNil))) [.row, B, C, .own (os.map .int), s4, .vl (.dat (.int (v - 99))), .no] rw2 = some (.dat (.list [.int (0 - 99), .int (99 - last)]), rw2) := by
      have := cons_eq (m := m2 subD (mC (.int 0)) (mC (.int 99))) (ss := [.row, B, C, .own (os.map .int), s4, .vl (.dat (.int (v - 99))), .no]) (rw := rw2) rfl (cons_eq (m2_eq (g := subD) (m := mC (.int 99)) rfl (ixl (.vl (.dat (.int (v - 99)))) rw2) rfl) (show mNil _ _ = some ([], rw2) from rfl))
      refine list_eq ?_
      unfold mLst bnd
      rw [this]
      rfl
    have hz : z = 0 ∨ z = 1 := by omega
    rcases hz with rfl | rfl
    · refine ⟨0 - 99, rw3, ?_, by omega, by omega, r3⟩
      rw [seq_nx ((ifT tst).trans (set_eq (m2_eq (g := ixD) (z := .dat (.int (0 - 99))) lst e3 (by simp [ixD, atI_0])) (by simp)))]
      exact fin _ _
    · refine ⟨99 - last, rw3, ?_, by omega, by omega, r3⟩
      rw [seq_nx ((ifT tst).trans (set_eq (m2_eq (g := ixD) (z := .dat (.int (99 - last))) lst e3 (by simp [ixD, atI_1])) (by simp)))]
      exact fin _ _
end Law
/-! Marks, drawn. -/
namespace Law
open PySem L2 FL
structure Off (os : List Int) (last : Int) : Prop where
  l : os.getLast? = some last
  b : ∀ o ∈ os, 0 ≤ o ∧ o ≤ last
  g : ∀ i x y, os[i]? = some x → os[i + 1]? = some y → x + 2 ≤ y
theorem Off.add {os : List Int} {last v : Int} (h : Off os last) (hv : 0 ≤ v) : Off (os ++ [last + 2 + v]) (last + 2 + v) := by
  have hl0 : 0 ≤ last := (h.b last (List.mem_of_getLast? h.l)).1
  refine ⟨by simp, fun o ho => ?_, fun i x y hx hy => ?_⟩
  · rcases List.mem_append.mp ho with ho | ho
    · have := h.b o ho
      omega
    · simp at ho
      omega
  · by_cases hi : i + 1 < os.length
    · rw [List.getElem?_append_left (by omega)] at hx
      rw [List.getElem?_append_left hi] at hy
      exact h.g i x y hx hy
    · have hlen : i + 1 < (os ++ [last + 2 + v]).length := (List.getElem?_eq_some_iff.mp hy).1
      rw [List.length_append] at hlen
      have e : i + 1 = os.length := by simp at hlen; omega
      rw [List.getElem?_append_right (by omega), e, Nat.sub_self] at hy
      have hy : last + 2 + v = y := by simpa using hy
      rw [List.getElem?_append_left (by omega)] at hx
      have := h.l
      rw [List.getLast?_eq_getElem?] at this
      have e2 : os.length - 1 = i := by omega
      rw [e2, hx] at this
      cases this
      omega
theorem off_loop (ns : List Int) {B : Sl} {far : Int} (hf : 0 < far) (hf2 : far ≤ 60) (xs : List PyData) : ∀ {os : List Int} {last : Int} (s4 : Sl) {rw : Ro}, Off os last → os.length + xs.length ≤ 10 → 0 ≤ rw.1 →
    ∃ os' last' s4' rw', forGo (gNm 4) (sApp 3 (m2 addD (m2 addD (mIxV 3 (m1 negD (mC (.int 1)))) (mC (.int 2))) (mCallR 0 (F__law_taken ns) (mCons (mVar 2) mNil)))) xs [.row, B, .vl (.dat (.int far)), .own (os.map .int), s4, .no, .no] rw =
      some (.nx [.row, B, .vl (.dat (.int far)), .own (os'.map .int), s4', .no, .no] rw') ∧ Off os' last' ∧ os'.length = os.length + xs.length ∧ last' ≤ last + 61 * xs.length ∧ 0 ≤ rw'.1 := by
  induction xs with
  | nil => intro os last s4 rw h _ hr; exact ⟨os, last, s4, rw, rfl, h, rfl, by simp, hr⟩
  | cons x xs ih =>
    intro os last s4 rw h hl hr
    rw [List.length_cons] at hl
    have hL : (os.map PyData.int).getLast? = some (.int last) := by rw [List.getLast?_map, h.l]; rfl
    have aL := atI_last hL
    have ixl : mIxV 3 (m1 negD (mC (.int 1))) [.row, B, .vl (.dat (.int far)), .own (os.map .int), .vl (.dat x), .no, .no] rw = some (.dat (.int last), rw) := by
      simp [mIxV, m1, negD, mC, bnd, opt, pur, aL]
    obtain ⟨v, rw1, e1, v0, v1, r1⟩ := draw (ns := ns) (i := 0) (ma := mCons (mVar 2) mNil) (ss := [.row, B, .vl (.dat (.int far)), .own (os.map .int), .vl (.dat x), .no, .no]) (rw := rw) rfl rfl hf hr
    have st := app_eq (i := 3) (ds := os.map .int) (d := .int (last + 2 + v)) (ss := [.row, B, .vl (.dat (.int far)), .own (os.map .int), .vl (.dat x), .no, .no]) rfl (m2_eq (g := addD) (m2_eq (g := addD) (n := mC (.int 2)) (z := .dat (.int (last + 2))) ixl rfl rfl) e1 rfl) (by rw [List.length_map]; omega)
    obtain ⟨os', last', s4', rw', e, h1, h2, h3, h4⟩ := ih (os := os ++ [last + 2 + v]) (.vl (.dat x)) (rw := rw1) (h.add v0) (by rw [List.length_append]; simp; omega) r1
    refine ⟨os', last', s4', rw', ?_, h1, by rw [h2, List.length_append, List.length_cons]; simp; omega, by rw [List.length_cons]; omega, h4⟩
    rw [forGo_step (ss1 := [.row, B, .vl (.dat (.int far)), .own (os.map .int), .vl (.dat x), .no, .no]) (by simp [gNm, putS]) st]
    have e2 : [.row, B, .vl (.dat (.int far)), .own (os.map .int), .vl (.dat x), .no, .no].set 3 (.own (os.map PyData.int ++ [.int (last + 2 + v)])) = [.row, B, .vl (.dat (.int far)), .own ((os ++ [last + 2 + v]).map .int), .vl (.dat x), .no, .no] := by
      rw [List.map_append]
      rfl
    rw [e2]
    exact e
theorem marks_val (ns : List Int) {many far : Int} (h1 : 1 ≤ many) (h3 : many ≤ 3) (hf : 0 < far) (hf2 : far ≤ 60) {rw : Ro} (h : 0 ≤ rw.1) : ∃ ms rw', F__law_marks ns [.dat (.int many), .dat (.int far)] rw = some (.dat (mkD ms), rw') ∧ MarksOk ms ∧ ms.length = many.toNat ∧ 0 ≤ rw'.1 := by
  have off0 : Off [0] 0 := ⟨rfl, fun o ho => by simp at ho; omega, fun i x y hx hy => by simp at hy⟩
  have src : mRg1 (m2 subD (mVar 1) (mC (.int 1))) [.row, .vl (.dat (.int many)), .vl (.dat (.int far)), .own [.int 0], .no, .no, .no] rw = some (rgD 0 (many - 1).toNat, rw) := by
    have h2 : (-1000000 : Int) ≤ many - 1 ∧ many - 1 ≤ 1000000 := by omega
    simp [mRg1, m2, subD, i2, subI, mVar, mC, bnd, opt, pur, h2]
  have lx : (rgD 0 (many - 1).toNat).length = (many - 1).toNat := by rw [rgD_map, List.length_map, List.length_range]
  obtain ⟨os, last, s4, rw1, e1, o1, o2, o3, r1⟩ := off_loop ns (B := .vl (.dat (.int many))) hf hf2 (rgD 0 (many - 1).toNat) (os := [0]) (last := 0) .no (rw := rw) off0 (by rw [lx]; simp; omega) h
  rw [lx] at o2 o3
  have hlen : os.length = many.toNat := by rw [o2]; simp; omega
  have hl0 : 0 ≤ last := (o1.b last (List.mem_of_getLast? o1.l)).1
  obtain ⟨b, rw2, e2, b1, b2, r2⟩ := tail_marks ns (A := .row) (B := .vl (.dat (.int many))) (C := .vl (.dat (.int far))) (s4 := s4) (s5 := .no) o1.l hl0 (by omega) (by omega) (fun o ho => o1.b o ho) r1
  refine ⟨os.map (b + ·), rw2, ?_, ⟨by rw [List.length_map]; omega, by rw [List.length_map]; omega, fun m hm => ?_, fun i x y hx hy => ?_⟩, by rw [List.length_map]; exact hlen, r2⟩
  · refine bodyR_rt rfl ?_
    refine (seq_nx (ss1 := [.row, .vl (.dat (.int many)), .vl (.dat (.int far)), .own [.int 0], .no, .no, .no]) (rw1 := rw) rfl).trans ?_
    refine (seq_nx ((for_eq src).trans e1)).trans ?_
    exact e2
  · obtain ⟨o, ho, rfl⟩ := List.mem_map.mp hm
    have := o1.b o ho
    omega
  · rw [List.getElem?_map] at hx hy
    cases qx : os[i]? with
    | none => rw [qx] at hx; cases hx
    | some p =>
      cases qy : os[i + 1]? with
      | none => rw [qy] at hy; cases hy
      | some q =>
        rw [qx] at hx
        rw [qy] at hy
        have hx : b + p = x := by simpa using hx
        have hy : b + q = y := by simpa using hy
        have := o1.g i p q qx qy
        omega
end Law
/-! Names; things, drawn. -/
namespace Law
open PySem L2 FL
abbrev alph : Str := Str.ofString "abcdefghijklmnopqrstuvwxyz"
def one (j : Nat) : Str := ⟨#[97 + j]⟩
theorem alph_at : ∀ j : Fin 26, alph.cps.toList[(j : Nat)]? = some (97 + (j : Nat)) := by decide +kernel
theorem alph_len : alph.length = 26 := by decide +kernel
theorem alph_ix {j : Nat} (h : j < 26) : ixD (.dat (.str alph)) (.dat (.int (j : Nat))) = some (.dat (.str (one j))) := by
  have e := atI_nat (alph_at ⟨j, h⟩)
  have hl : alph.length ≤ 100000 := by rw [alph_len]; decide
  unfold ixD
  simp only []
  rw [if_pos hl, e]
  rfl
def baseOf (t : Nat) : Str := ⟨((List.range 8).map fun k => 97 + (t + 7 * k) % 26).toArray⟩
theorem base_join : ∀ t : Fin 26, Txt.join (Str.ofString "") ((List.range 8).map fun k => one (((t : Nat) + 7 * k) % 26)) = baseOf t := by decide +kernel
theorem base_len : ∀ t : Fin 26, (baseOf t).length = 8 := by decide +kernel
def nameOf (t c : Nat) (w : Bool) (k : Nat) : Str := if w then cutS (baseOf t) none (some ((c : Int) + 1 + (k : Nat))) else cutS (baseOf t) none (some (c : Int)) ++ one ((t + 3 + 5 * k) % 26)
abbrev NameOk (z : Str) : Prop := 1 ≤ z.length ∧ z.length ≤ 8 ∧ ∀ c ∈ z.cps.toList, c ∈ alph.cps.toList
theorem name_ok : ∀ (t : Fin 26) (c : Fin 6) (w : Bool) (k : Fin 3), NameOk (nameOf t c w k) := by decide +kernel
theorem name_ne : ∀ (t : Fin 26) (c : Fin 6) (w : Bool) (k l : Fin 3), nameOf t c w k = nameOf t c w l → k = l := by decide +kernel
theorem cut_len : ∀ (t : Fin 26) (c : Fin 6), (cutS (baseOf t) none (some (c : Int))).length ≤ 8 := by decide +kernel
end Law
/-! Things, drawn. -/
namespace Law
open PySem L2 FL
structure HouseOk (ts : List Thing) : Prop where
  l1 : 1 ≤ ts.length
  l3 : ts.length ≤ 3
  mks : ∀ t ∈ ts, MarksOk t.2
  nm : ∀ t ∈ ts, NameOk t.1
  nd : (ts.map (·.1)).Nodup
theorem emod_nat (a : Nat) : ((a : Int) % 26) = ((a % 26 : Nat) : Int) := by omega
/-- base + sign, or the base's begin -/
theorem name_val {t : Fin 26} {c : Fin 6} {w : Bool} {k : Fin 3} (A B D E : Sl) (far : Vl) (own : List PyData) (s11 : Sl) (rw : Ro) :
    sSet 11 (m2 ixD (mList (mLst (mCons (m2 addD (mSl (mVar 4) mNone (mSome (mVar 5))) (mVar 10)) (mCons (mSl (mVar 4) mNone (mSome (m2 addD (m2 addD (mVar 5) (mC (.int 1))) (mVar 9)))) mNil)))) (m1 intD (mVar 6))) [A, B, D, E, .vl (.dat (.str (baseOf t))), .vl (.dat (.int ((c : Nat) : Int))), .vl (.dat (.bool w)), .vl far, .own own, .vl (.dat (.int ((k : Nat) : Int))), .vl (.dat (.str (one ((t + 3 + 5 * k) % 26)))), s11] rw =
      some (.nx [A, B, D, E, .vl (.dat (.str (baseOf t))), .vl (.dat (.int ((c : Nat) : Int))), .vl (.dat (.bool w)), .vl far, .own own, .vl (.dat (.int ((k : Nat) : Int))), .vl (.dat (.str (one ((t + 3 + 5 * k) % 26)))), .vl (.dat (.str (nameOf t c w k)))] rw) := by
  have hb : (baseOf t).length ≤ 100000 := by rw [base_len]; decide
  have hc := cut_len t c
  have ho : (one ((t + 3 + 5 * k) % 26)).length = 1 := rfl
  have hs : (cutS (baseOf t) none (some ((c : Nat) : Int))).length + (one ((t + 3 + 5 * k) % 26)).length ≤ 100000 := by rw [ho]; omega
  cases w
  · simp [sSet, m2, m1, mList, mLst, mCons, mNil, mVar, mC, mSl, mSome, mNone, bnd, opt, pur, dats, addD, intD, slD, ixD, hb, hs, atI_0, putS, nameOf]
  · simp [sSet, m2, m1, mList, mLst, mCons, mNil, mVar, mC, mSl, mSome, mNone, bnd, opt, pur, dats, addD, intD, slD, ixD, hb, hs, atI_1, putS, nameOf]
abbrev thBody (ns : List Int) : Sx := sSeq (sSet 10 (m2 ixD (mC (.str (PySem.Str.ofString "abcdefghijklmnopqrstuvwxyz"))) (m2 modD (m2 addD (m2 addD (mVar 3) (mC (.int 3))) (m2 mulD (mC (.int 5)) (mVar 9))) (mC (.int 26))))) (sSeq (sSet 11 (m2 ixD (mList (mLst (mCons (m2 addD (mSl (mVar 4) mNone (mSome (mVar 5))) (mVar 10)) (mCons (mSl (mVar 4) mNone (mSome (m2 addD (m2 addD (mVar 5) (mC (.int 1))) (mVar 9)))) mNil)))) (m1 intD (mVar 6)))) (sApp 8 (mTup (mCons (mVar 11) (mCons (mCallR 0 (F__law_marks ns) (mCons (m2 addD (mC (.int 1)) (mCallR 0 (F__law_taken ns) (mCons (mVar 2) mNil))) (mCons (mVar 7) mNil))) mNil)))))
theorem things_go (ns : List Int) {B : Sl} {long far : Int} (hlo : 0 < long) (hlo3 : long ≤ 3) (hf : 0 < far) (hf2 : far ≤ 60) {t : Fin 26} {c : Fin 6} {w : Bool} : ∀ (n k : Nat) (ts : List Thing) (s9 s10 s11 : Sl) (rw : Ro), k + n ≤ 3 → ts.map (·.1) = (List.range k).map (nameOf t c w) → (∀ z ∈ ts, MarksOk z.2) → 0 ≤ rw.1 →
    ∃ (ts' : List Thing) (s9' s10' s11' : Sl) (rw' : Ro), forGo (gNm 9) (thBody ns) ((List.range' k n).map fun i => .int (i : Nat)) [.row, B, .vl (.dat (.int long)), .vl (.dat (.int ((t : Nat) : Int))), .vl (.dat (.str (baseOf t))), .vl (.dat (.int ((c : Nat) : Int))), .vl (.dat (.bool w)), .vl (.dat (.int far)), .own (ts.map thD), s9, s10, s11] rw =
      some (.nx [.row, B, .vl (.dat (.int long)), .vl (.dat (.int ((t : Nat) : Int))), .vl (.dat (.str (baseOf t))), .vl (.dat (.int ((c : Nat) : Int))), .vl (.dat (.bool w)), .vl (.dat (.int far)), .own (ts'.map thD), s9', s10', s11'] rw') ∧
      ts'.map (·.1) = (List.range (k + n)).map (nameOf t c w) ∧ (∀ z ∈ ts', MarksOk z.2) ∧ 0 ≤ rw'.1 := by
  intro n
  induction n with
  | zero => intro k ts s9 s10 s11 rw _ h1 h2 h3; exact ⟨ts, s9, s10, s11, rw, rfl, h1, h2, h3⟩
  | succ n ih =>
    intro k ts s9 s10 s11 rw hk h1 h2 h3
    let K : Fin 3 := ⟨k, by omega⟩
    have hlen : ts.length = k := by
      have := congrArg List.length h1
      simpa using this
    -- the sign
    have st1 : sSet 10 (m2 ixD (mC (.str (PySem.Str.ofString "abcdefghijklmnopqrstuvwxyz"))) (m2 modD (m2 addD (m2 addD (mVar 3) (mC (.int 3))) (m2 mulD (mC (.int 5)) (mVar 9))) (mC (.int 26)))) [.row, B, .vl (.dat (.int long)), .vl (.dat (.int ((t : Nat) : Int))), .vl (.dat (.str (baseOf t))), .vl (.dat (.int ((c : Nat) : Int))), .vl (.dat (.bool w)), .vl (.dat (.int far)), .own (ts.map thD), .vl (.dat (.int ((K : Nat) : Int))), s10, s11] rw =
        some (.nx [.row, B, .vl (.dat (.int long)), .vl (.dat (.int ((t : Nat) : Int))), .vl (.dat (.str (baseOf t))), .vl (.dat (.int ((c : Nat) : Int))), .vl (.dat (.bool w)), .vl (.dat (.int far)), .own (ts.map thD), .vl (.dat (.int ((K : Nat) : Int))), .vl (.dat (.str (one ((t + 3 + 5 * K) % 26)))), s11] rw) := by
      have e : ((((t : Nat) : Int) + 3 + 5 * ((K : Nat) : Int)) % 26) = (((t + 3 + 5 * K) % 26 : Nat) : Int) := by omega
      have ax := alph_ix (j := (t + 3 + 5 * K) % 26) (Nat.mod_lt _ (by decide))
      have hm : mulD (.dat (.int 5)) (.dat (.int ((K : Nat) : Int))) = some (.dat (.int (5 * ((K : Nat) : Int)))) := by
        unfold mulD
        simp only []
        rw [if_pos (.inl (by decide))]
      have hd : modD (.dat (.int (((t : Nat) : Int) + 3 + 5 * ((K : Nat) : Int)))) (.dat (.int 26)) = some (.dat (.int (((t + 3 + 5 * K) % 26 : Nat) : Int))) := by
        unfold modD i2 modI
        simp only []
        rw [if_pos (by decide), e]
      exact set_eq (m2_eq (g := ixD) (y := .dat (.int (((t + 3 + 5 * K) % 26 : Nat) : Int))) rfl (m2_eq (g := modD) (m2_eq (g := addD) (m2_eq (g := addD) (m := mVar 3) (n := mC (.int 3)) rfl rfl rfl) (m2_eq (g := mulD) (m := mC (.int 5)) (n := mVar 9) rfl rfl hm) rfl) rfl hd) ax) (by simp)
    have st2 := name_val (t := t) (c := c) (w := w) (k := K) .row B (.vl (.dat (.int long))) (.vl (.dat (.int ((t : Nat) : Int)))) (.dat (.int far)) (ts.map thD) s11 rw
    -- the marks
    obtain ⟨v, rw1, e1, v0, v1, r1⟩ := draw (ns := ns) (i := 0) (ma := mCons (mVar 2) mNil) (ss := [.row, B, .vl (.dat (.int long)), .vl (.dat (.int ((t : Nat) : Int))), .vl (.dat (.str (baseOf t))), .vl (.dat (.int ((c : Nat) : Int))), .vl (.dat (.bool w)), .vl (.dat (.int far)), .own (ts.map thD), .vl (.dat (.int ((K : Nat) : Int))), .vl (.dat (.str (one ((t + 3 + 5 * K) % 26)))), .vl (.dat (.str (nameOf t c w K)))]) (rw := rw) rfl rfl hlo h3
    obtain ⟨ms, rw2, e2, m2', m3, r2⟩ := marks_val ns (many := 1 + v) (far := far) (by omega) (by omega) hf hf2 r1
    have st3 := app_eq (i := 8) (ds := ts.map thD) (d := thD (nameOf t c w K, ms)) (m := mTup (mCons (mVar 11) (mCons (mCallR 0 (F__law_marks ns) (mCons (m2 addD (mC (.int 1)) (mCallR 0 (F__law_taken ns) (mCons (mVar 2) mNil))) (mCons (mVar 7) mNil))) mNil))) (ss := [.row, B, .vl (.dat (.int long)), .vl (.dat (.int ((t : Nat) : Int))), .vl (.dat (.str (baseOf t))), .vl (.dat (.int ((c : Nat) : Int))), .vl (.dat (.bool w)), .vl (.dat (.int far)), .own (ts.map thD), .vl (.dat (.int ((K : Nat) : Int))), .vl (.dat (.str (one ((t + 3 + 5 * K) % 26)))), .vl (.dat (.str (nameOf t c w K)))]) (rw := rw) (rw1 := rw2) rfl (by
      have q := cons_eq (m := mVar 11) (ss := [.row, B, .vl (.dat (.int long)), .vl (.dat (.int ((t : Nat) : Int))), .vl (.dat (.str (baseOf t))), .vl (.dat (.int ((c : Nat) : Int))), .vl (.dat (.bool w)), .vl (.dat (.int far)), .own (ts.map thD), .vl (.dat (.int ((K : Nat) : Int))), .vl (.dat (.str (one ((t + 3 + 5 * K) % 26)))), .vl (.dat (.str (nameOf t c w K)))]) (rw := rw) rfl (cons_eq (callR_eq (i := 0) (F := F__law_marks ns) rfl (cons_eq (m2_eq (g := addD) (m := mC (.int 1)) rfl e1 rfl) (cons_eq (m := mVar 7) rfl (show mNil _ rw1 = some ([], rw1) from rfl))) e2) (show mNil _ rw2 = some ([], rw2) from rfl))
      unfold mTup bnd
      rw [q]
      rfl) (by rw [List.length_map]; omega)
    obtain ⟨ts', s9', s10', s11', rw', e, f1, f2, f3⟩ := ih (k + 1) (ts ++ [(nameOf t c w K, ms)]) (.vl (.dat (.int ((K : Nat) : Int)))) (.vl (.dat (.str (one ((t + 3 + 5 * K) % 26))))) (.vl (.dat (.str (nameOf t c w K)))) rw2 (by omega) (by rw [List.map_append, h1, List.range_succ, List.map_append]; rfl) (fun z hz => by
      rcases List.mem_append.mp hz with hz | hz
      · exact h2 z hz
      · simp at hz; subst hz; exact m2') r2
    refine ⟨ts', s9', s10', s11', rw', ?_, by rw [f1, Nat.add_assoc, Nat.add_comm 1 n], f2, f3⟩
    rw [List.range'_succ, List.map_cons, forGo_step (ss1 := [.row, B, .vl (.dat (.int long)), .vl (.dat (.int ((t : Nat) : Int))), .vl (.dat (.str (baseOf t))), .vl (.dat (.int ((c : Nat) : Int))), .vl (.dat (.bool w)), .vl (.dat (.int far)), .own (ts.map thD), .vl (.dat (.int ((K : Nat) : Int))), s10, s11]) (by simp [gNm, putS, K]) ((seq_nx st1).trans ((seq_nx st2).trans st3))]
    have e9 : (ts.map thD ++ [thD (nameOf t c w K, ms)]) = (ts ++ [(nameOf t c w K, ms)]).map thD := by rw [List.map_append]; rfl
    rw [e9]
    exact e
end Law
/-! A house's things, drawn, whole; is_name, are_marks, check_things. -/
namespace Law
open PySem L2 FL
theorem strs_of : ∀ ys : List Str, strs? (ys.map PyData.str) = some ys
  | [] => rfl
  | y :: ys => by
    rw [List.map_cons]
    unfold strs?
    rw [strs_of ys]
theorem base_sum : ∀ t : Fin 26, ((((List.range 8).map fun k => one (((t : Nat) + 7 * k) % 26)).map (·.length)).sum + ((List.range 8).map fun k => one (((t : Nat) + 7 * k) % 26)).length * (Str.ofString "").length) ≤ 100000 := by decide +kernel
theorem base_val {t : Fin 26} (A B D S5 S6 S7 S8 S10 S11 : Sl) (rw : Ro) : m2 joinD (mC (.str (PySem.Str.ofString ""))) (mList (mLc [9] (mRg1 (mC (.int 8))) (gNm 9) mYes (m2 ixD (mC (.str (PySem.Str.ofString "abcdefghijklmnopqrstuvwxyz"))) (m2 modD (m2 addD (mVar 3) (m2 mulD (mC (.int 7)) (mVar 9))) (mC (.int 26)))))) [A, B, D, .vl (.dat (.int ((t : Nat) : Int))), .no, S5, S6, S7, S8, .no, S10, S11] rw = some (.dat (.str (baseOf t)), rw) := by
  have go := lcGo_map (g := gNm 9) (tt := mYes) (te := m2 ixD (mC (.str (PySem.Str.ofString "abcdefghijklmnopqrstuvwxyz"))) (m2 modD (m2 addD (mVar 3) (m2 mulD (mC (.int 7)) (mVar 9))) (mC (.int 26)))) (ss := [A, B, D, .vl (.dat (.int ((t : Nat) : Int))), .no, S5, S6, S7, S8, .no, S10, S11]) (rw := rw) (fun i : Nat => .int i) (fun i : Nat => .str (one (((t : Nat) + 7 * i) % 26))) (fun _ => true) (List.range 8) fun i _ => by
    refine ⟨[A, B, D, .vl (.dat (.int ((t : Nat) : Int))), .no, S5, S6, S7, S8, .vl (.dat (.int (i : Nat))), S10, S11], by simp [gNm, putS], rfl, fun _ => ?_⟩
    have e : ((((t : Nat) : Int) + 7 * (i : Int)) % 26) = ((((t : Nat) + 7 * i) % 26 : Nat) : Int) := by omega
    have ax := alph_ix (j := ((t : Nat) + 7 * i) % 26) (Nat.mod_lt _ (by decide))
    have hm : mulD (.dat (.int 7)) (.dat (.int (i : Int))) = some (.dat (.int (7 * (i : Int)))) := by
      unfold mulD
      simp only []
      rw [if_pos (.inl (by decide))]
    have hd : modD (.dat (.int (((t : Nat) : Int) + 7 * (i : Int)))) (.dat (.int 26)) = some (.dat (.int ((((t : Nat) + 7 * i) % 26 : Nat) : Int))) := by
      unfold modD i2 modI
      simp only []
      rw [if_pos (by decide), e]
    exact m2_eq (g := ixD) rfl (m2_eq (g := modD) (m2_eq (g := addD) (m := mVar 3) rfl (m2_eq (g := mulD) (m := mC (.int 7)) (n := mVar 9) rfl rfl hm) rfl) rfl hd) ax
  rw [List.filter_eq_self.mpr (fun _ _ => rfl)] at go
  have src : mRg1 (mC (.int 8)) [A, B, D, .vl (.dat (.int ((t : Nat) : Int))), .no, S5, S6, S7, S8, .no, S10, S11] rw = some ((List.range 8).map (fun i : Nat => PyData.int i), rw) := by
    have : mRg1 (mC (.int 8)) [A, B, D, .vl (.dat (.int ((t : Nat) : Int))), .no, S5, S6, S7, S8, .no, S10, S11] rw = some (rgD 0 8, rw) := rfl
    rw [this, rgD_map]
  have lc := (lc_eq (vs := [9]) (g := gNm 9) (tt := mYes) (te := m2 ixD (mC (.str (PySem.Str.ofString "abcdefghijklmnopqrstuvwxyz"))) (m2 modD (m2 addD (mVar 3) (m2 mulD (mC (.int 7)) (mVar 9))) (mC (.int 26)))) (by simp [noOwn]) src (by simp)).trans go
  refine m2_eq (g := joinD) rfl (list_eq lc) ?_
  have e1 : ((List.range 8).map fun i : Nat => PyData.str (one (((t : Nat) + 7 * i) % 26))) = ((List.range 8).map fun k => one (((t : Nat) + 7 * k) % 26)).map PyData.str := by rw [List.map_map]; rfl
  rw [e1]
  unfold joinD
  simp only [strs_of]
  rw [if_pos (base_sum t), base_join t]
theorem things_val (ns : List Int) {most long : Int} (h1 : 0 < most) (h2 : most ≤ 3) (h3 : 0 < long) (h4 : long ≤ 3) {rw : Ro} (h : 0 ≤ rw.1) : ∃ ts rw', F__law_things ns [.dat (.int most), .dat (.int long)] rw = some (.dat (thsD ts), rw') ∧ HouseOk ts ∧ ((ts.length : Int) ≤ most) ∧ 0 ≤ rw'.1 := by
  -- turn
  obtain ⟨a, rw1, e1, a0, a1, r1⟩ := draw (ns := ns) (i := 0) (ma := mCons (mC (.int 26)) mNil) (ss := [.row, .vl (.dat (.int most)), .vl (.dat (.int long)), .no, .no, .no, .no, .no, .no, .no, .no, .no]) (rw := rw) rfl rfl (by decide) h
  obtain ⟨t, rfl⟩ : ∃ t : Fin 26, a = ((t : Nat) : Int) := ⟨⟨a.toNat, by omega⟩, by simp; omega⟩
  have st1 := set_eq (i := 3) e1 (by simp)
  have st2 := set_eq (i := 4) (base_val (t := t) .row (.vl (.dat (.int most))) (.vl (.dat (.int long))) .no .no .no .no .no .no rw1) (by simp)
  -- cut
  obtain ⟨b, rw2, e2, b0, b1, r2⟩ := draw (ns := ns) (i := 0) (ma := mCons (mC (.int 6)) mNil) (ss := [.row, .vl (.dat (.int most)), .vl (.dat (.int long)), .vl (.dat (.int ((t : Nat) : Int))), .vl (.dat (.str (baseOf t))), .no, .no, .no, .no, .no, .no, .no]) (rw := rw1) rfl rfl (by decide) r1
  obtain ⟨c, rfl⟩ : ∃ c : Fin 6, b = ((c : Nat) : Int) := ⟨⟨b.toNat, by omega⟩, by simp; omega⟩
  have st3 := set_eq (i := 5) e2 (by simp)
  -- within
  obtain ⟨d, rw3, e3, d0, d1, r3⟩ := draw (ns := ns) (i := 0) (ma := mCons (mC (.int 3)) mNil) (ss := [.row, .vl (.dat (.int most)), .vl (.dat (.int long)), .vl (.dat (.int ((t : Nat) : Int))), .vl (.dat (.str (baseOf t))), .vl (.dat (.int ((c : Nat) : Int))), .no, .no, .no, .no, .no, .no]) (rw := rw2) rfl rfl (by decide) r2
  have st4 := set_eq (i := 6) (m2_eq (g := eqD) (n := mC (.int 2)) (z := .dat (.bool (decide (d = 2)))) e3 rfl (by unfold eqD; simp only [eq_int])) (by simp)
  -- far
  obtain ⟨u, rw4, e4, u0, u1, r4⟩ := draw (ns := ns) (i := 0) (ma := mCons (mC (.int 3)) mNil) (ss := [.row, .vl (.dat (.int most)), .vl (.dat (.int long)), .vl (.dat (.int ((t : Nat) : Int))), .vl (.dat (.str (baseOf t))), .vl (.dat (.int ((c : Nat) : Int))), .vl (.dat (.bool (decide (d = 2)))), .no, .no, .no, .no, .no]) (rw := rw3) rfl rfl (by decide) r3
  obtain ⟨far, hfar, f0, f1⟩ : ∃ far, ixD (.dat (.list [.int 1, .int 4, .int 60])) (.dat (.int u)) = some (.dat (.int far)) ∧ 0 < far ∧ far ≤ 60 := by
    have hu : u = 0 ∨ u = 1 ∨ u = 2 := by omega
    rcases hu with rfl | rfl | rfl
    · exact ⟨1, by simp [ixD, atI_0], by decide, by decide⟩
    · exact ⟨4, by simp [ixD, atI_1], by decide, by decide⟩
    · exact ⟨60, by simp [ixD, atI_2], by decide, by decide⟩
  have st5 := set_eq (i := 7) (m2_eq (g := ixD) (m := mList (mLst (mCons (mC (.int 1)) (mCons (mC (.int 4)) (mCons (mC (.int 60)) mNil))))) rfl e4 hfar) (by simp)
  -- how many
  obtain ⟨q, rw5, e5, q0, q1, r5⟩ := draw (ns := ns) (i := 0) (ma := mCons (mVar 1) mNil) (ss := [.row, .vl (.dat (.int most)), .vl (.dat (.int long)), .vl (.dat (.int ((t : Nat) : Int))), .vl (.dat (.str (baseOf t))), .vl (.dat (.int ((c : Nat) : Int))), .vl (.dat (.bool (decide (d = 2)))), .vl (.dat (.int far)), .own [], .no, .no, .no]) (rw := rw4) rfl rfl h1 r4
  have src : mRg1 (m2 addD (mC (.int 1)) (mCallR 0 (F__law_taken ns) (mCons (mVar 1) mNil))) [.row, .vl (.dat (.int most)), .vl (.dat (.int long)), .vl (.dat (.int ((t : Nat) : Int))), .vl (.dat (.str (baseOf t))), .vl (.dat (.int ((c : Nat) : Int))), .vl (.dat (.bool (decide (d = 2)))), .vl (.dat (.int far)), .own [], .no, .no, .no] rw4 = some ((List.range' 0 (q.toNat + 1)).map fun i => PyData.int (i : Nat), rw5) := by
    have e : m2 addD (mC (.int 1)) (mCallR 0 (F__law_taken ns) (mCons (mVar 1) mNil)) [.row, .vl (.dat (.int most)), .vl (.dat (.int long)), .vl (.dat (.int ((t : Nat) : Int))), .vl (.dat (.str (baseOf t))), .vl (.dat (.int ((c : Nat) : Int))), .vl (.dat (.bool (decide (d = 2)))), .vl (.dat (.int far)), .own [], .no, .no, .no] rw4 = some (.dat (.int (1 + q)), rw5) := m2_eq (g := addD) (m := mC (.int 1)) rfl e5 rfl
    have h6 : (-1000000 : Int) ≤ 1 + q ∧ 1 + q ≤ 1000000 := by omega
    have h7 : (1 + q).toNat = q.toNat + 1 := by omega
    unfold mRg1 bnd
    rw [e]
    simp only []
    rw [if_pos h6, h7, rgD_map, List.range_eq_range']
    rfl
  obtain ⟨ts, s9, s10, s11, rw6, e6, g1, g2, r6⟩ := things_go ns (B := .vl (.dat (.int most))) h3 h4 f0 f1 (t := t) (c := c) (w := decide (d = 2)) (q.toNat + 1) 0 [] .no .no .no rw5 (by omega) rfl (fun z hz => by cases hz) r5
  rw [Nat.zero_add] at g1
  have hlen : ts.length = q.toNat + 1 := by
    have := congrArg List.length g1
    simpa using this
  refine ⟨ts, rw6, ?_, ⟨by omega, by omega, g2, fun z hz => ?_, ?_⟩, by omega, r6⟩
  · refine bodyR_rl rfl ?_
    refine (seq_nx st1).trans ((seq_nx st2).trans ((seq_nx st3).trans ((seq_nx st4).trans ((seq_nx st5).trans ((seq_nx (ss1 := [.row, .vl (.dat (.int most)), .vl (.dat (.int long)), .vl (.dat (.int ((t : Nat) : Int))), .vl (.dat (.str (baseOf t))), .vl (.dat (.int ((c : Nat) : Int))), .vl (.dat (.bool (decide (d = 2)))), .vl (.dat (.int far)), .own [], .no, .no, .no]) (rw1 := rw4) rfl).trans ((seq_nx ((for_eq src).trans e6)).trans rfl))))))
  · have : z.1 ∈ ts.map (·.1) := List.mem_map_of_mem hz
    rw [g1, List.mem_map] at this
    obtain ⟨k, hk, e⟩ := this
    rw [List.mem_range] at hk
    rw [← e]
    exact name_ok t c _ ⟨k, by omega⟩
  · rw [g1]
    have inj : ∀ (n : Nat), n ≤ 3 → ((List.range n).map (nameOf t c (decide (d = 2)))).Nodup := fun n hn => by
      refine (List.pairwise_map.mpr ?_)
      refine List.Pairwise.imp_of_mem ?_ List.nodup_range
      intro x y hx hy hxy he
      rw [List.mem_range] at hx hy
      have := name_ne t c (decide (d = 2)) ⟨x, by omega⟩ ⟨y, by omega⟩ he
      exact hxy (Fin.mk.inj this)
    exact inj _ (by omega)
end Law
/-! Ties, drawn. -/
namespace Law
open PySem L2 FL
theorem tup_eq {ma : Mx (List Vl)} {ss : List Sl} {rw rw1 : Ro} {xs : List Vl} {ds : List PyData} (h1 : ma ss rw = some (xs, rw1)) (h2 : dats xs = some ds) (h3 : ds.length ≤ 100000) : mTup ma ss rw = some (.dat (.tuple ds), rw1) := by
  unfold mTup bnd opt
  rw [h1]
  simp only []
  rw [h2]
  simp only []
  rw [if_pos h3]
theorem nil_eq {ss : List Sl} {rw : Ro} : mNil ss rw = some ([], rw) := rfl
def restOf (n o : Nat) : List Nat := (List.range n).filter fun k => decide (k ≠ o)
theorem rest_mem {n o k : Nat} (h : k ∈ restOf n o) : k < n ∧ k ≠ o := by
  unfold restOf at h
  rw [List.mem_filter, List.mem_range] at h
  exact ⟨h.1, by simpa using h.2⟩
theorem ints_ints (xs : List Nat) : (xs.map fun k : Nat => PyData.int k) = (xs.map fun k : Nat => (k : Int)).map PyData.int := by rw [List.map_map]; rfl
theorem ne_rest (xs : List Nat) : neD (.dat (.list (xs.map fun k : Nat => PyData.int k))) (.dat (.list [])) = some (.dat (.bool (!xs.isEmpty))) := by
  unfold neD
  simp only []
  rw [ints_ints, ne_nil]
  cases xs <;> rfl
theorem ths_at {ts : List Thing} {i : Nat} {t : Thing} (h : ts[i]? = some t) : ixD (.dat (thsD ts)) (.dat (.int (i : Nat))) = some (.dat (thD t)) := by
  unfold ixD thsD
  simp only []
  rw [atI_mapD thD h]
theorem th_marks (t : Thing) : ixD (.dat (thD t)) (.dat (.int 1)) = some (.dat (mkD t.2)) := by
  unfold ixD thD
  simp only []
  rw [atI_1]
theorem len_marks (ms : List Int) : lenD (.dat (mkD ms)) = some (.dat (.int (ms.length : Nat))) := by
  unfold lenD mkD
  simp only [List.length_map]
theorem len_ths (ts : List Thing) : lenD (.dat (thsD ts)) = some (.dat (.int (ts.length : Nat))) := by
  unfold lenD thsD
  simp only [List.length_map]
theorem tie_val (ns : List Int) {ts : List Thing} (h1 : 1 ≤ ts.length) (h3 : ts.length ≤ 3) (hm : Marked ts) {rw : Ro} (h : 0 ≤ rw.1) : ∃ t rw', F__law_tie ns [.dat (thsD ts)] rw = some (.dat (tieD t), rw') ∧ TieOk ts t ∧ 0 ≤ rw'.1 := by
  let T : Sl := .vl (.dat (thsD ts))
  -- one
  obtain ⟨a, rw1, e1, a0, a1, r1⟩ := draw (ns := ns) (i := 0) (ma := mCons (m1 lenD (mVar 1)) mNil) (ss := [.row, T, .no, .no, .no, .no, .no]) (rw := rw) rfl (cons_eq (m1_eq (g := lenD) (m := mVar 1) rfl (len_ths ts)) nil_eq) (by omega) h
  obtain ⟨o, rfl⟩ : ∃ o : Nat, a = (o : Int) := ⟨a.toNat, by omega⟩
  have ho : o < ts.length := by omega
  have st1 := set_eq (i := 2) e1 (by simp)
  -- rest
  have src : mRg1 (m1 lenD (mVar 1)) [.row, T, .vl (.dat (.int (o : Int))), .no, .no, .no, .no] rw1 = some ((List.range ts.length).map (fun i : Nat => PyData.int i), rw1) := by
    have h2 : (-1000000 : Int) ≤ (ts.length : Int) ∧ (ts.length : Int) ≤ 1000000 := by omega
    have e := m1_eq (g := lenD) (m := mVar 1) (ss := [.row, T, .vl (.dat (.int (o : Int))), .no, .no, .no, .no]) (rw := rw1) rfl (len_ths ts)
    unfold mRg1 bnd
    rw [e]
    simp only []
    rw [if_pos h2, Int.toNat_natCast, rgD_map]
    rfl
  have go := lcGo_map (g := gNm 6) (tt := mTst (m2 neD (mVar 6) (mVar 2))) (te := mVar 6) (ss := [.row, T, .vl (.dat (.int (o : Int))), .no, .no, .no, .no]) (rw := rw1) (fun i : Nat => PyData.int i) (fun i : Nat => PyData.int i) (fun k => decide (k ≠ o)) (List.range ts.length) fun i _ => by
    refine ⟨[.row, T, .vl (.dat (.int (o : Int))), .no, .no, .no, .vl (.dat (.int (i : Nat)))], rfl, tst_eq (m2_eq (g := neD) (m := mVar 6) (n := mVar 2) rfl rfl ?_), fun _ => rfl⟩
    unfold neD
    simp only [eq_int]
    by_cases q : i = o
    · subst q; simp
    · have : ¬ ((i : Int) = (o : Int)) := by omega
      simp [q, this]
  have st2 := set_eq (i := 3) (list_eq ((lc_eq (vs := [6]) (g := gNm 6) (tt := mTst (m2 neD (mVar 6) (mVar 2))) (te := mVar 6) rfl src (by rw [List.length_map, List.length_range]; omega)).trans go)) (by simp)
  have hrest : (List.range ts.length).filter (fun k => decide (k ≠ o)) = restOf ts.length o := rfl
  rw [hrest] at st2
  -- way
  obtain ⟨most, hmost, w3, w8⟩ : ∃ most : Int, (mCons (m2 ixD (mList (mLst (mCons (mC (.int 3)) (mCons (mC (.int 8)) mNil)))) (m1 intD (m2 neD (mVar 3) (mList (mLst mNil))))) mNil) [.row, T, .vl (.dat (.int (o : Int))), .vl (.dat (.list ((restOf ts.length o).map fun i : Nat => PyData.int i))), .no, .no, .no] rw1 = some ([.dat (.int most)], rw1) ∧ 3 ≤ most ∧ (most = 3 ∨ most = 8 ∧ restOf ts.length o ≠ []) := by
    have n1 := m2_eq (g := neD) (m := mVar 3) (n := mList (mLst mNil)) (ss := [.row, T, .vl (.dat (.int (o : Int))), .vl (.dat (.list ((restOf ts.length o).map fun i : Nat => PyData.int i))), .no, .no, .no]) (rw := rw1) rfl rfl (ne_rest (restOf ts.length o))
    cases q : (restOf ts.length o) with
    | nil =>
      rw [q] at n1
      exact ⟨3, cons_eq (m2_eq (g := ixD) (m := mList (mLst (mCons (mC (.int 3)) (mCons (mC (.int 8)) mNil)))) (y := .dat (.int 0)) rfl (m1_eq (g := intD) n1 rfl) (by simp [ixD, atI_0])) nil_eq, by decide, .inl rfl⟩
    | cons x xs =>
      rw [q] at n1
      exact ⟨8, cons_eq (m2_eq (g := ixD) (m := mList (mLst (mCons (mC (.int 3)) (mCons (mC (.int 8)) mNil)))) (y := .dat (.int 1)) rfl (m1_eq (g := intD) n1 rfl) (by simp [ixD, atI_1])) nil_eq, by decide, .inr ⟨rfl, by simp⟩⟩
  obtain ⟨w, rw2, e2, w0, w1, r2⟩ := draw (ns := ns) (i := 0) rfl hmost (by omega) r1
  have st3 := set_eq (i := 4) e2 (by simp)
  let S : Int → Sl → List Sl := fun w s5 => [.row, T, .vl (.dat (.int (o : Int))), .vl (.dat (.list ((restOf ts.length o).map fun i : Nat => PyData.int i))), .vl (.dat (.int w)), s5, .no]
  have w_eq : ∀ (n : Int) (s5 : Sl) (rw : Ro), mTst (m2 eqD (mVar 4) (mC (.int n))) (S w s5) rw = some (decide (w = n), rw) := fun n s5 rw => tst_eq (m2_eq (g := eqD) (m := mVar 4) (n := mC (.int n)) rfl rfl (by unfold eqD; simp only [eq_int]))
  have w_lt : ∀ (n : Int) (s5 : Sl) (rw : Ro), mTst (m2 ltD (mVar 4) (mC (.int n))) (S w s5) rw = some (decide (w < n), rw) := fun n s5 rw => tst_eq (m2_eq (g := ltD) (m := mVar 4) (n := mC (.int n)) rfl rfl rfl)
  have start : ∀ {b : Sx} {x : Option Ou}, b (S w .no) rw2 = x → sSeq (sSet 2 (mCallR 0 (F__law_taken ns) (mCons (m1 lenD (mVar 1)) mNil))) (sSeq (sSet 3 (mList (mLc [6] (mRg1 (m1 lenD (mVar 1))) (gNm 6) (mTst (m2 neD (mVar 6) (mVar 2))) (mVar 6)))) (sSeq (sSet 4 (mCallR 0 (F__law_taken ns) (mCons (m2 ixD (mList (mLst (mCons (mC (.int 3)) (mCons (mC (.int 8)) mNil)))) (m1 intD (m2 neD (mVar 3) (mList (mLst mNil))))) mNil))) b)) [.row, T, .no, .no, .no, .no, .no] rw = x := fun {b x} hb => (seq_nx st1).trans ((seq_nx st2).trans ((seq_nx st3).trans hb))
  have hmk : ∀ {i : Nat} {t : Thing}, ts[i]? = some t → 1 ≤ t.2.length := fun {i t} hi => (hm t (List.mem_of_getElem? hi)).1
  by_cases c0 : w = 0
  · -- rate
    subst c0
    obtain ⟨b, rw3, e3, b0, b1, r3⟩ := draw (ns := ns) (i := 0) (ma := mCons (m1 lenD (mVar 1)) mNil) (ss := S 0 .no) (rw := rw2) rfl (cons_eq (m1_eq (g := lenD) (m := mVar 1) rfl (len_ths ts)) nil_eq) (by omega) r2
    obtain ⟨j, rfl⟩ : ∃ j : Nat, b = (j : Int) := ⟨b.toNat, by omega⟩
    have hj : j < ts.length := by omega
    obtain ⟨t, ht⟩ : ∃ t, ts[j]? = some t := ⟨_, List.getElem?_eq_getElem hj⟩
    have am : (mCons (m1 lenD (m2 ixD (m2 ixD (mVar 1) (mVar 5)) (mC (.int 1)))) mNil) (S 0 (.vl (.dat (.int (j : Int))))) rw3 = some ([.dat (.int (t.2.length : Nat))], rw3) := cons_eq (m1_eq (g := lenD) (m2_eq (g := ixD) (n := mC (.int 1)) (m2_eq (g := ixD) (m := mVar 1) (n := mVar 5) rfl rfl (ths_at ht)) rfl (th_marks t)) (len_marks t.2)) nil_eq
    obtain ⟨d, rw4, e4, d0, d1, r4⟩ := draw (ns := ns) (i := 0) rfl am (by have := hmk ht; omega) r3
    obtain ⟨m, rfl⟩ : ∃ m : Nat, d = (m : Int) := ⟨d.toNat, by omega⟩
    refine ⟨.rate o j m, rw4, ?_, ⟨ho, t, ht, by omega⟩, r4⟩
    refine bodyR_rt rfl (start ?_)
    refine seq_rt ((ifT (by rw [w_eq]; rfl)).trans ((seq_nx (set_eq (i := 5) e3 (by simp [S]))).trans (ret_eq ?_)))
    exact tup_eq (cons_eq (m := mC (.str (PySem.Str.ofString "rate"))) rfl (cons_eq (m := mVar 2) rfl (cons_eq (m := mVar 5) rfl (cons_eq e4 nil_eq)))) rfl (show (4 : Nat) ≤ 100000 by decide)
  · by_cases c3 : w < 3
    · -- under, over
      obtain ⟨t, ht⟩ : ∃ t, ts[o]? = some t := ⟨_, List.getElem?_eq_getElem ho⟩
      have am : (mCons (m1 lenD (m2 ixD (m2 ixD (mVar 1) (mVar 2)) (mC (.int 1)))) mNil) (S w .no) rw2 = some ([.dat (.int (t.2.length : Nat))], rw2) := cons_eq (m1_eq (g := lenD) (m2_eq (g := ixD) (n := mC (.int 1)) (m2_eq (g := ixD) (m := mVar 1) (n := mVar 2) rfl rfl (ths_at ht)) rfl (th_marks t)) (len_marks t.2)) nil_eq
      obtain ⟨d, rw4, e4, d0, d1, r4⟩ := draw (ns := ns) (i := 0) rfl am (by have := hmk ht; omega) r2
      obtain ⟨m, rfl⟩ : ∃ m : Nat, d = (m : Int) := ⟨d.toNat, by omega⟩
      refine ⟨.edge (decide (w = 2)) o m, rw4, ?_, ⟨t, ht, by omega⟩, r4⟩
      refine bodyR_rt rfl (start ?_)
      refine (seq_nx ((ifF (by rw [w_eq, decide_eq_false c0])).trans rfl)).trans ?_
      refine seq_rt ((ifT (by rw [w_lt, decide_eq_true c3])).trans (ret_eq ?_))
      have hw : w = 1 ∨ w = 2 := by omega
      rcases hw with rfl | rfl
      · exact tup_eq (cons_eq (m2_eq (g := ixD) (m := mList (mLst (mCons (mC (.str (PySem.Str.ofString "under"))) (mCons (mC (.str (PySem.Str.ofString "over"))) mNil)))) (n := m2 subD (mVar 4) (mC (.int 1))) (z := .dat (.str (PySem.Str.ofString "under"))) (y := .dat (.int 0)) rfl rfl (by simp [ixD, atI_0])) (cons_eq (m := mVar 2) rfl (cons_eq e4 nil_eq))) rfl (show (3 : Nat) ≤ 100000 by decide)
      · exact tup_eq (cons_eq (m2_eq (g := ixD) (m := mList (mLst (mCons (mC (.str (PySem.Str.ofString "under"))) (mCons (mC (.str (PySem.Str.ofString "over"))) mNil)))) (n := m2 subD (mVar 4) (mC (.int 1))) (z := .dat (.str (PySem.Str.ofString "over"))) (y := .dat (.int 1)) rfl rfl (by simp [ixD, atI_1])) (cons_eq (m := mVar 2) rfl (cons_eq e4 nil_eq))) rfl (show (3 : Nat) ≤ 100000 by decide)
    · have h8 : most = 8 ∧ restOf ts.length o ≠ [] := by
        rcases w8 with w8 | w8
        · omega
        · exact w8
      have hrl : 0 < (restOf ts.length o).length := List.length_pos_iff.mpr h8.2
      have pick : ∀ (s5 : Sl) (rwx : Ro), 0 ≤ rwx.1 → ∃ (j : Nat) (rw' : Ro), m2 ixD (mVar 3) (mCallR 0 (F__law_taken ns) (mCons (m1 lenD (mVar 3)) mNil)) (S w s5) rwx = some (.dat (.int (j : Nat)), rw') ∧ j < ts.length ∧ j ≠ o ∧ 0 ≤ rw'.1 := fun s5 rwx hx => by
        have al : (mCons (m1 lenD (mVar 3)) mNil) (S w s5) rwx = some ([.dat (.int ((restOf ts.length o).length : Nat))], rwx) := cons_eq (m1_eq (g := lenD) (m := mVar 3) rfl (by simp [lenD])) nil_eq
        obtain ⟨d, rw', e, d0, d1, r'⟩ := draw (ns := ns) (i := 0) rfl al (by omega) hx
        obtain ⟨k, rfl⟩ : ∃ k : Nat, d = (k : Int) := ⟨d.toNat, by omega⟩
        obtain ⟨j, hj⟩ : ∃ j, (restOf ts.length o)[k]? = some j := ⟨_, List.getElem?_eq_getElem (by omega)⟩
        have hjm := rest_mem (List.mem_of_getElem? hj)
        refine ⟨j, rw', m2_eq (g := ixD) (m := mVar 3) rfl e ?_, hjm.1, hjm.2, r'⟩
        have := atI_mapD (fun k : Nat => PyData.int k) hj
        simp [ixD, this]
      obtain ⟨j, rw3, e3, j1, j2, r3⟩ := pick .no rw2 r2
      have st5 := set_eq (i := 5) e3 (by simp [S])
      by_cases c6 : w < 6
      · -- with, against
        refine ⟨.two (decide (w = 4)) o j, rw3, ?_, ⟨ho, j1, fun z => j2 z.symm⟩, r3⟩
        refine bodyR_rt rfl (start ?_)
        refine (seq_nx ((ifF (by rw [w_eq, decide_eq_false c0])).trans rfl)).trans ?_
        refine (seq_nx ((ifF (by rw [w_lt, decide_eq_false c3])).trans rfl)).trans ?_
        refine (seq_nx st5).trans ?_
        refine seq_rt ((ifT (rw1 := rw3) ((w_lt 6 (.vl (.dat (.int (j : Nat)))) rw3).trans (by rw [decide_eq_true c6]))).trans (ret_eq ?_))
        have hw : w = 3 ∨ w = 4 ∨ w = 5 := by omega
        rcases hw with rfl | rfl | rfl
        · exact tup_eq (cons_eq (m2_eq (g := ixD) (m := mList (mLst (mCons (mC (.str (PySem.Str.ofString "with"))) (mCons (mC (.str (PySem.Str.ofString "against"))) (mCons (mC (.str (PySem.Str.ofString "with"))) mNil))))) (n := m2 subD (mVar 4) (mC (.int 3))) (z := .dat (.str (PySem.Str.ofString "with"))) (y := .dat (.int 0)) rfl rfl (by simp [ixD, atI_0])) (cons_eq (m := mVar 2) rfl (cons_eq (m := mVar 5) rfl nil_eq))) rfl (show (3 : Nat) ≤ 100000 by decide)
        · exact tup_eq (cons_eq (m2_eq (g := ixD) (m := mList (mLst (mCons (mC (.str (PySem.Str.ofString "with"))) (mCons (mC (.str (PySem.Str.ofString "against"))) (mCons (mC (.str (PySem.Str.ofString "with"))) mNil))))) (n := m2 subD (mVar 4) (mC (.int 3))) (z := .dat (.str (PySem.Str.ofString "against"))) (y := .dat (.int 1)) rfl rfl (by simp [ixD, atI_1])) (cons_eq (m := mVar 2) rfl (cons_eq (m := mVar 5) rfl nil_eq))) rfl (show (3 : Nat) ≤ 100000 by decide)
        · exact tup_eq (cons_eq (m2_eq (g := ixD) (m := mList (mLst (mCons (mC (.str (PySem.Str.ofString "with"))) (mCons (mC (.str (PySem.Str.ofString "against"))) (mCons (mC (.str (PySem.Str.ofString "with"))) mNil))))) (n := m2 subD (mVar 4) (mC (.int 3))) (z := .dat (.str (PySem.Str.ofString "with"))) (y := .dat (.int 2)) rfl rfl (by simp [ixD, atI_2])) (cons_eq (m := mVar 2) rfl (cons_eq (m := mVar 5) rfl nil_eq))) rfl (show (3 : Nat) ≤ 100000 by decide)
      · -- sum, product
        obtain ⟨k, rw4, e4, k1, k2, r4⟩ := pick (.vl (.dat (.int (j : Nat)))) rw3 r3
        refine ⟨.three (decide (w = 7)) o j k, rw4, ?_, ⟨ho, j1, k1, fun z => j2 z.symm, fun z => k2 z.symm⟩, r4⟩
        refine bodyR_rt rfl (start ?_)
        refine (seq_nx ((ifF (by rw [w_eq, decide_eq_false c0])).trans rfl)).trans ?_
        refine (seq_nx ((ifF (by rw [w_lt, decide_eq_false c3])).trans rfl)).trans ?_
        refine (seq_nx st5).trans ?_
        refine (seq_nx ((ifF (rw1 := rw3) ((w_lt 6 (.vl (.dat (.int (j : Nat)))) rw3).trans (by rw [decide_eq_false c6]))).trans rfl)).trans (ret_eq ?_)
        have hw : w = 6 ∨ w = 7 := by omega
        rcases hw with rfl | rfl
        · exact tup_eq (cons_eq (m2_eq (g := ixD) (m := mList (mLst (mCons (mC (.str (PySem.Str.ofString "sum"))) (mCons (mC (.str (PySem.Str.ofString "product"))) mNil)))) (n := m2 subD (mVar 4) (mC (.int 6))) (z := .dat (.str (PySem.Str.ofString "sum"))) (y := .dat (.int 0)) rfl rfl (by simp [ixD, atI_0])) (cons_eq (m := mVar 2) rfl (cons_eq (m := mVar 5) rfl (cons_eq e4 nil_eq)))) rfl (show (4 : Nat) ≤ 100000 by decide)
        · exact tup_eq (cons_eq (m2_eq (g := ixD) (m := mList (mLst (mCons (mC (.str (PySem.Str.ofString "sum"))) (mCons (mC (.str (PySem.Str.ofString "product"))) mNil)))) (n := m2 subD (mVar 4) (mC (.int 6))) (z := .dat (.str (PySem.Str.ofString "product"))) (y := .dat (.int 1)) rfl rfl (by simp [ixD, atI_1])) (cons_eq (m := mVar 2) rfl (cons_eq (m := mVar 5) rfl (cons_eq e4 nil_eq)))) rfl (show (4 : Nat) ≤ 100000 by decide)
end Law
/-! The ties drawn; the checks of a house go through. -/
namespace Law
open PySem L2 FL
theorem lcGo_inv {α β : Type} {g : PyData → List Sl → Option (List Sl)} {tt : Mx Bool} {te : Mx Vl} {ss : List Sl} (enc : α → PyData) (f : β → PyData) (Q : β → Prop) (I : Ro → Prop) (ys : List α) : ∀ (rw : Ro), I rw →
    (∀ y ∈ ys, ∀ rw, I rw → ∃ ss1 d rw', g (enc y) ss = some ss1 ∧ tt ss1 rw = some (true, rw) ∧ te ss1 rw = some (.dat (f d), rw') ∧ Q d ∧ I rw') →
    ∃ (ds : List β) (rw' : Ro), lcGo g tt te ss (ys.map enc) rw = some (ds.map f, rw') ∧ ds.length = ys.length ∧ (∀ d ∈ ds, Q d) ∧ I rw' := by
  induction ys with
  | nil => intro rw h _; exact ⟨[], rw, rfl, rfl, fun d hd => (by cases hd), h⟩
  | cons y ys ih =>
    intro rw h step
    obtain ⟨ss1, d, rw1, h1, h2, h3, h4, h5⟩ := step y List.mem_cons_self rw h
    obtain ⟨ds, rw2, e, e1, e2, e3⟩ := ih rw1 h5 fun z hz => step z (List.mem_cons_of_mem _ hz)
    refine ⟨d :: ds, rw2, ?_, by simp [e1], fun z hz => ?_, e3⟩
    · rw [List.map_cons]
      unfold lcGo
      rw [h1]
      show (match tt ss1 rw with | none => none | some (true, rw1) => _ | some (false, rw1) => _) = _
      rw [h2]
      show (match te ss1 rw with | some (.dat y, rw2) => _ | _ => none) = _
      rw [h3]
      show (match lcGo g tt te ss (ys.map enc) rw1 with | some (zs, rw3) => some (f d :: zs, rw3) | none => none) = _
      rw [e]
      rfl
    · rcases List.mem_cons.mp hz with rfl | hz
      · exact h4
      · exact e2 z hz
theorem ties_val (ns : List Int) {ts : List Thing} (h1 : 1 ≤ ts.length) (h3 : ts.length ≤ 3) (hm : Marked ts) {most : Int} (m0 : 2 ≤ most) (m1' : most ≤ 6) {rw : Ro} (h : 0 ≤ rw.1) : ∃ ties rw', F__law_ties ns [.dat (thsD ts), .dat (.int most)] rw = some (.dat (tisD ties), rw') ∧ (∀ t ∈ ties, TieOk ts t) ∧ (ties.length : Int) ≤ most ∧ 0 ≤ rw'.1 := by
  obtain ⟨u, rw1, e1, u0, u1, r1⟩ := draw (ns := ns) (i := 0) (ma := mCons (mC (.int 2)) mNil) (ss := [.row, .vl (.dat (thsD ts)), .vl (.dat (.int most)), .no]) (rw := rw) rfl rfl (by decide) h
  obtain ⟨c, hc, c0, c1⟩ : ∃ c, ixD (.dat (.list [.int 3, .int (most + 1)])) (.dat (.int u)) = some (.dat (.int c)) ∧ 0 < c ∧ c ≤ most + 1 := by
    have hu : u = 0 ∨ u = 1 := by omega
    rcases hu with rfl | rfl
    · exact ⟨3, by simp [ixD, atI_0], by omega, by omega⟩
    · exact ⟨most + 1, by simp [ixD, atI_1], by omega, by omega⟩
  have al : (mCons (m2 ixD (mList (mLst (mCons (mC (.int 3)) (mCons (m2 addD (mVar 2) (mC (.int 1))) mNil)))) (mCallR 0 (F__law_taken ns) (mCons (mC (.int 2)) mNil))) mNil) [.row, .vl (.dat (thsD ts)), .vl (.dat (.int most)), .no] rw = some ([.dat (.int c)], rw1) :=
    cons_eq (m2_eq (g := ixD) (x := .dat (.list [.int 3, .int (most + 1)])) rfl e1 hc) nil_eq
  obtain ⟨v, rw2, e2, v0, v1, r2⟩ := draw (ns := ns) (i := 0) rfl al c0 r1
  have src : mRg1 (mCallR 0 (F__law_taken ns) (mCons (m2 ixD (mList (mLst (mCons (mC (.int 3)) (mCons (m2 addD (mVar 2) (mC (.int 1))) mNil)))) (mCallR 0 (F__law_taken ns) (mCons (mC (.int 2)) mNil))) mNil)) [.row, .vl (.dat (thsD ts)), .vl (.dat (.int most)), .no] rw = some ((List.range v.toNat).map (fun i : Nat => PyData.int i), rw2) := by
    have h2 : (-1000000 : Int) ≤ v ∧ v ≤ 1000000 := by omega
    unfold mRg1 bnd
    rw [e2]
    simp only []
    rw [if_pos h2, rgD_map]
    rfl
  obtain ⟨ties, rw3, e3, l3, q3, r3⟩ := lcGo_inv (g := gNm 3) (tt := mYes) (te := mCallR 0 (F__law_tie ns) (mCons (mVar 1) mNil)) (ss := [.row, .vl (.dat (thsD ts)), .vl (.dat (.int most)), .no]) (fun i : Nat => PyData.int i) tieD (TieOk ts) (fun rw => 0 ≤ rw.1) (List.range v.toNat) rw2 r2 fun i _ rw hr => by
    obtain ⟨t, rw', e, ht, hr'⟩ := tie_val ns h1 h3 hm hr
    exact ⟨[.row, .vl (.dat (thsD ts)), .vl (.dat (.int most)), .vl (.dat (.int (i : Nat)))], t, rw', rfl, rfl, callR_eq (i := 0) rfl (cons_eq (m := mVar 1) rfl nil_eq) e, ht, hr'⟩
  rw [List.length_range] at l3
  refine ⟨ties, rw3, bodyR_rt rfl (ret_eq (list_eq ((lc_eq (vs := [3]) rfl src (by rw [List.length_map, List.length_range]; omega)).trans e3))), q3, by omega, r3⟩
/-! ### the checks -/
theorem bls_true {α : Type} : ∀ ys : List α, bls? (ys.map fun _ => PyData.bool true) = some (ys.map fun _ => true)
  | [] => rfl
  | y :: ys => by
    rw [List.map_cons]
    unfold bls?
    rw [bls_true ys]
    rfl
theorem all_true {α : Type} (ys : List α) : allD (.dat (.list (ys.map fun _ => PyData.bool true))) = some (.dat (.bool true)) := by
  unfold allD
  simp only [bls_true]
  have : (ys.map fun _ => true).all id = true := by simp
  rw [this]
theorem below_val {i n : Int} (h0 : 0 ≤ i) (h1 : i < n) : F_is_number_below [.dat (.int i), .dat (.int n)] = some (.dat (.bool true)) := by
  refine bodyP_rt (rw := (0, 0)) rfl ?_
  simp [m_is_number_below, bodyP, bodyL, bodyR, bodyX, bodyT, slots, slotsR, ssT, sSeq, sIf, sNx, sRet, sRetL, sRetO, sRetX, sSet, sSetX, sOwn, sApp, sExt, sClr, sDrop, sDropX, sTgt, sFor, sFrz, frz, sRow, sTry, sRaise, noAt, noRow, mBor, mTst, mAnd, mOr, mNot, mIf, mAndV, mOrV, mNotV, mChain, m1, m2, bnd, opt, pur, mVar, mC, mCons, mNil, mTup, mLst, mList, mCall, mCallL, mCallX, mCallR, mOk, mHse, mMake, mSl, mSome, mNone, mSeq, mEn, mRg1, mRg2, mZ3, mLc, mLc2, mYes, mIxV, mInO, mRow1, mRow2, mRowLen, mRowAt, dats, putS, gNm, gTp, gsCons, gsNil, seqD, addD, subD, subI, mulD, fdivD, fdivI, modD, modI, negD, i2, ltD, ltI, leD, leI, gtD, gtI, geD, geI, eqD, neD, isND, notND, inD, ninD, ixD, slD, lenD, tupleD, listD, intD, lstD, isiD, isi2D, tyN, isTy, noOwn, wipeS, slots, h0, h1]
theorem andV_eq {a b : Mx Vl} {ss : List Sl} {rw rw1 : Ro} {x : Option (Vl × Ro)} (h1 : a ss rw = some (.dat (.bool true), rw1)) (h2 : b ss rw1 = x) : mAndV a b ss rw = x := by
  unfold mAndV bnd
  rw [tst_eq h1]
  simp only [if_true]
  exact h2
theorem chain_eq {g g' : Vl → Vl → Option Vl} {a b c : Mx Vl} {ss : List Sl} {rw rw1 rw2 rw3 : Ro} {x y z : Vl} {k : Bool} (h1 : a ss rw = some (x, rw1)) (h2 : b ss rw1 = some (y, rw2)) (h3 : g x y = some (.dat (.bool true))) (h4 : c ss rw2 = some (z, rw3)) (h5 : g' y z = some (.dat (.bool k))) : mChain g g' a b c ss rw = some (.dat (.bool k), rw3) := by
  unfold mChain bnd
  rw [h1]
  simp only []
  rw [h2]
  simp only []
  have : mTst (opt (g x y)) ss rw2 = some (true, rw2) := tst_eq (by unfold opt; rw [h3])
  rw [this]
  simp only [if_true]
  rw [h4]
  simp only []
  unfold opt
  rw [h5]
theorem name_val1 {z : Str} (h : NameOk z) : F_is_name [.dat (.str z)] = some (.dat (.bool true)) := by
  obtain ⟨h1, h8, hc⟩ := h
  have hl : z.length ≤ 100000 := by omega
  have ln : m1 lenD (mVar 0) [.vl (.dat (.str z)), .no] (0, 0) = some (.dat (.int (z.length : Nat)), (0, 0)) := m1_eq (g := lenD) (m := mVar 0) rfl (by unfold lenD; simp only []; rw [if_pos hl])
  have go := lcGo_map (g := gNm 1) (tt := mYes) (te := m2 inD (mVar 1) (mC (.str (PySem.Str.ofString "abcdefghijklmnopqrstuvwxyz")))) (ss := [.vl (.dat (.str z)), .no]) (rw := (0, 0)) (fun c : Nat => PyData.str ⟨#[c]⟩) (fun _ => .bool true) (fun _ => true) z.cps.toList fun c hcm => by
    refine ⟨[.vl (.dat (.str z)), .vl (.dat (.str ⟨#[c]⟩))], rfl, rfl, fun _ => m2_eq (g := inD) (m := mVar 1) rfl rfl ?_⟩
    have hm : c ∈ alph.cps.toList := hc c hcm
    have e : inO (.str ⟨#[c]⟩) (.str alph) = some true := by
      unfold inO
      simp only []
      rw [if_pos (show (#[c] : Array Nat).size = 1 from rfl)]
      show some (decide (c ∈ alph.cps.toList)) = _
      rw [decide_eq_true hm]
    unfold inD
    simp only []
    rw [e]
  rw [List.filter_eq_self.mpr (fun _ _ => rfl)] at go
  have src : mSeq (mVar 0) [.vl (.dat (.str z)), .no] (0, 0) = some (z.cps.toList.map (fun c : Nat => PyData.str ⟨#[c]⟩), (0, 0)) := rfl
  have hz : (z.cps.toList.map (fun c : Nat => PyData.str ⟨#[c]⟩)).length ≤ 100000 := by
    rw [List.length_map, Array.length_toList]
    exact hl
  have lc := (lc_eq (vs := [1]) (g := gNm 1) (tt := mYes) (te := m2 inD (mVar 1) (mC (.str (PySem.Str.ofString "abcdefghijklmnopqrstuvwxyz")))) rfl src hz).trans go
  refine bodyP_rt (rw := (0, 0)) rfl (ret_eq (andV_eq (rw1 := (0, 0)) (chain_eq (g := leD) (g' := leD) (a := mC (.int 1)) (c := mC (.int 8)) rfl ln ?_ rfl ?_) (m1_eq (g := allD) (list_eq lc) (all_true _))))
  · have : (1 : Int) ≤ (z.length : Int) := by omega
    simp [leD, i2, leI, this]
  · have : (z.length : Int) ≤ 8 := by omega
    simp [leD, i2, leI, this]
theorem marks_val1 {ms : List Int} (h : MarksOk ms) : F_are_marks [.dat (mkD ms)] = some (.dat (.bool true)) := by
  refine bodyP_rt (rw := (0, 0)) rfl ?_
  rcases three_cases h.l1 h.l3 with ⟨a, rfl⟩ | ⟨a, b, rfl⟩ | ⟨a, b, c, rfl⟩
  · have ha := h.in_ a (by simp)
    simp [m_are_marks, bodyP, bodyL, bodyR, bodyX, bodyT, slots, slotsR, ssT, sSeq, sIf, sNx, sRet, sRetL, sRetO, sRetX, sSet, sSetX, sOwn, sApp, sExt, sClr, sDrop, sDropX, sTgt, sFor, sFrz, frz, sRow, sTry, sRaise, noAt, noRow, mBor, mTst, mAnd, mOr, mNot, mIf, mAndV, mOrV, mNotV, mChain, m1, m2, bnd, opt, pur, mVar, mC, mCons, mNil, mTup, mLst, mList, mCall, mCallL, mCallX, mCallR, mOk, mHse, mMake, mSl, mSome, mNone, mSeq, mEn, mRg1, mRg2, mZ3, mLc, mLc2, mYes, mIxV, mInO, mRow1, mRow2, mRowLen, mRowAt, dats, putS, gNm, gTp, gsCons, gsNil, seqD, addD, subD, subI, mulD, fdivD, fdivI, modD, modI, negD, i2, ltD, ltI, leD, leI, gtD, gtI, geD, geI, eqD, neD, isND, notND, inD, ninD, ixD, slD, lenD, tupleD, listD, intD, lstD, isiD, isi2D, tyN, isTy, noOwn, wipeS, slots, mkD, lcGo, ha, allD, bls?, zpD, cutD, HT.sIx]
  · have ha := h.in_ a (by simp)
    have hb := h.in_ b (by simp)
    have g1 : 2 ≤ b - a := by have := h.gap 0 a b rfl rfl; omega
    simp [m_are_marks, bodyP, bodyL, bodyR, bodyX, bodyT, slots, slotsR, ssT, sSeq, sIf, sNx, sRet, sRetL, sRetO, sRetX, sSet, sSetX, sOwn, sApp, sExt, sClr, sDrop, sDropX, sTgt, sFor, sFrz, frz, sRow, sTry, sRaise, noAt, noRow, mBor, mTst, mAnd, mOr, mNot, mIf, mAndV, mOrV, mNotV, mChain, m1, m2, bnd, opt, pur, mVar, mC, mCons, mNil, mTup, mLst, mList, mCall, mCallL, mCallX, mCallR, mOk, mHse, mMake, mSl, mSome, mNone, mSeq, mEn, mRg1, mRg2, mZ3, mLc, mLc2, mYes, mIxV, mInO, mRow1, mRow2, mRowLen, mRowAt, dats, putS, gNm, gTp, gsCons, gsNil, seqD, addD, subD, subI, mulD, fdivD, fdivI, modD, modI, negD, i2, ltD, ltI, leD, leI, gtD, gtI, geD, geI, eqD, neD, isND, notND, inD, ninD, ixD, slD, lenD, tupleD, listD, intD, lstD, isiD, isi2D, tyN, isTy, noOwn, wipeS, slots, mkD, lcGo, ha, hb, g1, allD, bls?, zpD, cutD, HT.sIx]
  · have ha := h.in_ a (by simp)
    have hb := h.in_ b (by simp)
    have hc := h.in_ c (by simp)
    have g1 : 2 ≤ b - a := by have := h.gap 0 a b rfl rfl; omega
    have g2 : 2 ≤ c - b := by have := h.gap 1 b c rfl rfl; omega
    simp [m_are_marks, bodyP, bodyL, bodyR, bodyX, bodyT, slots, slotsR, ssT, sSeq, sIf, sNx, sRet, sRetL, sRetO, sRetX, sSet, sSetX, sOwn, sApp, sExt, sClr, sDrop, sDropX, sTgt, sFor, sFrz, frz, sRow, sTry, sRaise, noAt, noRow, mBor, mTst, mAnd, mOr, mNot, mIf, mAndV, mOrV, mNotV, mChain, m1, m2, bnd, opt, pur, mVar, mC, mCons, mNil, mTup, mLst, mList, mCall, mCallL, mCallX, mCallR, mOk, mHse, mMake, mSl, mSome, mNone, mSeq, mEn, mRg1, mRg2, mZ3, mLc, mLc2, mYes, mIxV, mInO, mRow1, mRow2, mRowLen, mRowAt, dats, putS, gNm, gTp, gsCons, gsNil, seqD, addD, subD, subI, mulD, fdivD, fdivI, modD, modI, negD, i2, ltD, ltI, leD, leI, gtD, gtI, geD, geI, eqD, neD, isND, notND, inD, ninD, ixD, slD, lenD, tupleD, listD, intD, lstD, isiD, isi2D, tyN, isTy, noOwn, wipeS, slots, mkD, lcGo, ha, hb, hc, g1, g2, allD, bls?, zpD, cutD, HT.sIx]
end Law
/-! is_tie, check_ties, check_things. -/
namespace Law
open PySem L2 FL
theorem some_eq {fa : Mx Vl} {ss : List Sl} {rw rw1 : Ro} {i : Int} (h : fa ss rw = some (.dat (.int i), rw1)) : mSome fa ss rw = some (some i, rw1) := by
  unfold mSome bnd opt
  rw [h]
theorem none_eq {ss : List Sl} {rw : Ro} : mNone ss rw = some (none, rw) := rfl
theorem sl_eq {fa : Mx Vl} {fl fh : Mx (Option Int)} {ss : List Sl} {rw rw1 rw2 rw3 : Ro} {x y : Vl} {l h : Option Int} (h1 : fa ss rw = some (x, rw1)) (h2 : fl ss rw1 = some (l, rw2)) (h3 : fh ss rw2 = some (h, rw3)) (h4 : slD x l h = some y) : mSl fa fl fh ss rw = some (y, rw3) := by
  unfold mSl bnd opt
  rw [h1]
  simp only []
  rw [h2]
  simp only []
  rw [h3]
  simp only []
  rw [h4]
theorem or_false {a b : Mx Bool} {ss : List Sl} {rw rw1 : Ro} {x : Option (Bool × Ro)} (h1 : a ss rw = some (false, rw1)) (h2 : b ss rw1 = x) : mOr a b ss rw = x := by
  unfold mOr bnd
  rw [h1]
  simp only [Bool.false_eq_true, if_false]
  exact h2
theorem cut_mid {α : Type} (x : α) (A B : List α) : cutD (x :: (A ++ B)) (some 1) (some ((A.length : Nat) + 1 : Int)) = A := by
  unfold cutD
  have e1 : HT.sIx (x :: (A ++ B)).length 0 (some 1) = 1 := by
    have := HT.sIx_nat (x :: (A ++ B)).length 0 1
    simp at this ⊢
    rw [this]
  have e2 : HT.sIx (x :: (A ++ B)).length (x :: (A ++ B)).length (some ((A.length : Nat) + 1 : Int)) = A.length + 1 := by
    have := HT.sIx_nat (x :: (A ++ B)).length (x :: (A ++ B)).length (A.length + 1)
    simp at this ⊢
    rw [this]
  rw [e1, e2]
  simp
theorem cut_end {α : Type} (x : α) (A B : List α) : cutD (x :: (A ++ B)) (some ((A.length : Nat) + 1 : Int)) none = B := by
  unfold cutD
  have e1 : HT.sIx (x :: (A ++ B)).length 0 (some ((A.length : Nat) + 1 : Int)) = A.length + 1 := by
    have := HT.sIx_nat (x :: (A ++ B)).length 0 (A.length + 1)
    simp at this ⊢
    rw [this]
  rw [e1, HT.sIx_none]
  simp
abbrev kvG : List (Str × Int) := [(PySem.Str.ofString "with", 2), (PySem.Str.ofString "against", 2), (PySem.Str.ofString "sum", 3), (PySem.Str.ofString "product", 3), (PySem.Str.ofString "rate", 2), (PySem.Str.ofString "under", 1), (PySem.Str.ofString "over", 1)]
abbrev nD (ns : List Nat) : List PyData := ns.map fun k : Nat => PyData.int k
abbrev tieG (z : Str) (named rest : List Nat) : PyData := .tuple (.str z :: (nD named ++ nD rest))
theorem is_tie_start {ts : List Thing} {z : Str} {named rest : List Nat} (hG : kvG.lookup z = some (named.length : Int)) (hb : ∀ i ∈ named, i < ts.length) (hl : named.length ≤ 10) {b : Sx} {x : Option Ou} (h : b [.vl (.dat (thsD ts)), .vl (.dat (tieG z named rest)), .vl (.dat (.str z)), .vl (.dat (.int (named.length : Int))), .vl (.dat (.tuple (nD named))), .vl (.dat (.tuple (nD rest))), .no, .no] (0, 0) = x) :
    sSeq (sIf (mOr (mTst (m2 eqD (m1 lenD (mVar 1)) (mC (.int 0)))) (mTst (m1 (ninG kvG) (m2 ixD (mVar 1) (mC (.int 0)))))) (sRet (mC (.bool false))) sNx) (sSeq (sSet 2 (m2 ixD (mVar 1) (mC (.int 0)))) (sSeq (sSet 3 (m1 (ixG kvG) (mVar 2))) (sSeq (sSet 4 (mSl (mVar 1) (mSome (mC (.int 1))) (mSome (m2 addD (mVar 3) (mC (.int 1)))))) (sSeq (sSet 5 (mSl (mVar 1) (mSome (m2 addD (mVar 3) (mC (.int 1)))) mNone)) (sSeq (sIf (mOr (mTst (m2 neD (m1 lenD (mVar 4)) (mVar 3))) (mNot (mTst (m1 allD (mList (mLc [7] (mSeq (mVar 4)) (gNm 7) mYes (mCall F_is_number_below (mCons (mVar 7) (mCons (m1 lenD (mVar 0)) mNil))))))))) (sRet (mC (.bool false))) sNx) b))))) [.vl (.dat (thsD ts)), .vl (.dat (tieG z named rest)), .no, .no, .no, .no, .no, .no] (0, 0) = x := by
  have i0 : ixD (.dat (tieG z named rest)) (.dat (.int 0)) = some (.dat (.str z)) := by
    unfold ixD
    simp only [atI_0]
  have l0 : lenD (.dat (tieG z named rest)) = some (.dat (.int ((.str z :: (nD named ++ nD rest) : List PyData).length : Nat))) := rfl
  refine (seq_nx ((ifF (rw1 := (0, 0)) (or_false (tst_eq (b := false) (m2_eq (g := eqD) (n := mC (.int 0)) (m1_eq (g := lenD) (m := mVar 1) rfl l0) rfl ?_)) (tst_eq (m1_eq (g := ninG kvG) (m2_eq (g := ixD) (m := mVar 1) (n := mC (.int 0)) rfl rfl i0) ?_)))).trans rfl)).trans ?_
  · unfold eqD
    simp only [eq_int]
    have : ¬ (((.str z :: (nD named ++ nD rest) : List PyData).length : Nat) : Int) = 0 := by
      rw [List.length_cons]
      omega
    rw [decide_eq_false this]
  · unfold ninG
    simp only [hG]
    rfl
  refine (seq_nx (set_eq (i := 2) (m2_eq (g := ixD) (m := mVar 1) (n := mC (.int 0)) rfl rfl i0) (by simp))).trans ?_
  refine (seq_nx (set_eq (i := 3) (x := .dat (.int (named.length : Int))) (m1_eq (g := ixG kvG) (m := mVar 2) rfl (by unfold ixG; simp only [hG])) (by simp))).trans ?_
  refine (seq_nx (set_eq (i := 4) (x := .dat (.tuple (nD named))) (sl_eq (fa := mVar 1) rfl (some_eq (fa := mC (.int 1)) rfl) (some_eq (m2_eq (g := addD) (m := mVar 3) (n := mC (.int 1)) rfl rfl rfl)) ?_) (by simp))).trans ?_
  · unfold slD
    simp only []
    have := cut_mid (PyData.str z) (nD named) (nD rest)
    rw [List.length_map] at this
    rw [this]
  refine (seq_nx (set_eq (i := 5) (x := .dat (.tuple (nD rest))) (sl_eq (fa := mVar 1) rfl (some_eq (m2_eq (g := addD) (m := mVar 3) (n := mC (.int 1)) rfl rfl rfl)) none_eq ?_) (by simp))).trans ?_
  · unfold slD
    simp only []
    have := cut_end (PyData.str z) (nD named) (nD rest)
    rw [List.length_map] at this
    rw [this]
  have go := lcGo_map (g := gNm 7) (tt := mYes) (te := mCall F_is_number_below (mCons (mVar 7) (mCons (m1 lenD (mVar 0)) mNil))) (ss := [.vl (.dat (thsD ts)), .vl (.dat (tieG z named rest)), .vl (.dat (.str z)), .vl (.dat (.int (named.length : Int))), .vl (.dat (.tuple (nD named))), .vl (.dat (.tuple (nD rest))), .no, .no]) (rw := (0, 0)) (fun k : Nat => PyData.int k) (fun _ => .bool true) (fun _ => true) named fun k hk => by
    have hlt := hb k hk
    exact ⟨[.vl (.dat (thsD ts)), .vl (.dat (tieG z named rest)), .vl (.dat (.str z)), .vl (.dat (.int (named.length : Int))), .vl (.dat (.tuple (nD named))), .vl (.dat (.tuple (nD rest))), .no, .vl (.dat (.int (k : Nat)))], rfl, rfl, fun _ => call_eq (cons_eq (m := mVar 7) rfl (cons_eq (m1_eq (g := lenD) (m := mVar 0) rfl (len_ths ts)) nil_eq)) (below_val (by omega) (by omega))⟩
  rw [List.filter_eq_self.mpr (fun _ _ => rfl)] at go
  have src : mSeq (mVar 4) [.vl (.dat (thsD ts)), .vl (.dat (tieG z named rest)), .vl (.dat (.str z)), .vl (.dat (.int (named.length : Int))), .vl (.dat (.tuple (nD named))), .vl (.dat (.tuple (nD rest))), .no, .no] (0, 0) = some (named.map (fun k : Nat => PyData.int k), (0, 0)) := rfl
  have lc := (lc_eq (vs := [7]) (g := gNm 7) (tt := mYes) (te := mCall F_is_number_below (mCons (mVar 7) (mCons (m1 lenD (mVar 0)) mNil))) rfl src (by rw [List.length_map]; omega)).trans go
  refine (seq_nx ((ifF (rw1 := (0, 0)) (or_false (rw1 := (0, 0)) (tst_eq (b := false) (m2_eq (g := neD) (x := .dat (.int ((nD named).length : Nat))) (n := mVar 3) (m1_eq (g := lenD) (m := mVar 4) rfl rfl) rfl ?_)) (not_eq (b := true) (tst_eq (m1_eq (g := allD) (list_eq lc) (all_true _)))))).trans rfl)).trans h
  unfold neD
  simp only [eq_int, List.length_map]
  simp
theorem in_marks (z : Str) : inO (.str z) (.tuple [.str (PySem.Str.ofString "rate"), .str (PySem.Str.ofString "under"), .str (PySem.Str.ofString "over")]) = some (decide (z = PySem.Str.ofString "rate") || (decide (z = PySem.Str.ofString "under") || decide (z = PySem.Str.ofString "over"))) := by
  unfold inO
  simp only [dV, dVs]
  show some (inV (.str z) [.str (PySem.Str.ofString "rate"), .str (PySem.Str.ofString "under"), .str (PySem.Str.ofString "over")]) = _
  have e : ∀ u v : Str, (u == v) = decide (v = u) := fun u v => by
    by_cases h : v = u
    · subst h; simp
    · simp [h, Ne.symm h]
  simp [inV, eqV, e]
/-- a tie of a thing and a mark -/
theorem is_tie_mark {ts : List Thing} {z : Str} {named : List Nat} {m i : Nat} {t : Thing} (hG : kvG.lookup z = some (named.length : Int)) (hb : ∀ i ∈ named, i < ts.length) (hl : named.length ≤ 10) (hz : inO (.str z) (.tuple [.str (PySem.Str.ofString "rate"), .str (PySem.Str.ofString "under"), .str (PySem.Str.ofString "over")]) = some true) (hi : named.getLast? = some i) (ht : ts[i]? = some t) (hm : m < t.2.length) :
    F_is_tie [.dat (thsD ts), .dat (tieG z named [m])] = some (.dat (.bool true)) := by
  have aL : atI (nD named) (-1) = some (.int (i : Nat)) := atI_last (by rw [List.getLast?_map, hi]; rfl)
  refine bodyP_rt (rw := (0, 0)) rfl (is_tie_start hG hb hl ?_)
  refine seq_rt ((ifT (rw1 := (0, 0)) (tst_eq (m2_eq (g := inD) (m := mVar 2) rfl rfl (by unfold inD; simp only [hz])))).trans ?_)
  refine (seq_nx (set_eq (i := 6) (x := .dat (mkD t.2)) (m2_eq (g := ixD) (n := mC (.int 1)) (m2_eq (g := ixD) (m := mVar 0) (y := .dat (.int (i : Nat))) rfl (m2_eq (g := ixD) (m := mVar 4) (n := m1 negD (mC (.int 1))) (y := .dat (.int (-1))) rfl rfl (by unfold ixD; simp only [aL])) (ths_at ht)) rfl (th_marks t)) (by simp))).trans ?_
  refine ret_eq (andV_eq (rw1 := (0, 0)) (m2_eq (g := eqD) (n := mC (.int 1)) (m1_eq (g := lenD) (m := mVar 5) (y := .dat (.int 1)) rfl rfl) rfl (by unfold eqD; simp only [eq_int]; rfl)) (call_eq (cons_eq (m2_eq (g := ixD) (m := mVar 5) (n := mC (.int 0)) (z := .dat (.int (m : Nat))) rfl rfl (by unfold ixD; simp [nD, atI_0])) (cons_eq (m1_eq (g := lenD) (m := mVar 6) rfl (len_marks t.2)) nil_eq)) (below_val (by omega) (by omega))))
theorem nin_ints (i : Nat) (js : List Nat) (h : i ∉ js) : ninD (.dat (.int (i : Nat))) (.dat (.tuple (nD js))) = some (.dat (.bool true)) := by
  have dvs : ∀ js : List Nat, dVs (nD js) = some (js.map fun k : Nat => V.int k) := fun js => by
    induction js with
    | nil => rfl
    | cons j js ih =>
      show dVs (.int (j : Nat) :: nD js) = _
      unfold dVs
      rw [ih]
      rfl
  have iv : ∀ js : List Nat, i ∉ js → inV (.int (i : Nat)) (js.map fun k : Nat => V.int k) = false := fun js => by
    induction js with
    | nil => intro _; rfl
    | cons j js ih =>
      intro h
      have h1 : i ≠ j := fun z => h (by rw [z]; exact List.mem_cons_self)
      have h2 := ih fun z => h (List.mem_cons_of_mem _ z)
      unfold inV at h2 ⊢
      rw [List.map_cons, List.any_cons, h2]
      have : ¬ ((j : Int) = (i : Int)) := by omega
      simp [eqV, this]
  unfold ninD inO
  simp only [dV, dvs, iv js h]
  rfl
theorem is_tie_free {ts : List Thing} {z : Str} {i : Nat} {js : List Nat} (hG : kvG.lookup z = some ((i :: js).length : Int)) (hb : ∀ k ∈ i :: js, k < ts.length) (hl : (i :: js).length ≤ 10) (hz : inO (.str z) (.tuple [.str (PySem.Str.ofString "rate"), .str (PySem.Str.ofString "under"), .str (PySem.Str.ofString "over")]) = some false) (hi : i ∉ js) :
    F_is_tie [.dat (thsD ts), .dat (tieG z (i :: js) [])] = some (.dat (.bool true)) := by
  refine bodyP_rt (rw := (0, 0)) rfl (is_tie_start hG hb hl ?_)
  refine (seq_nx ((ifF (rw1 := (0, 0)) (tst_eq (m2_eq (g := inD) (m := mVar 2) rfl rfl (by unfold inD; simp only [hz])))).trans rfl)).trans ?_
  refine ret_eq (andV_eq (rw1 := (0, 0)) (m2_eq (g := eqD) (n := mC (.int 0)) (m1_eq (g := lenD) (m := mVar 5) (y := .dat (.int 0)) rfl rfl) rfl (by unfold eqD; simp only [eq_int]; rfl)) (m2_eq (g := ninD) (x := .dat (.int (i : Nat))) (y := .dat (.tuple (nD js))) (m2_eq (g := ixD) (m := mVar 4) (n := mC (.int 0)) rfl rfl (by unfold ixD; simp [nD, atI_0])) (sl_eq (fa := mVar 4) rfl (some_eq (fa := mC (.int 1)) rfl) none_eq ?_) (nin_ints i js hi)))
  unfold slD
  simp only []
  have e := cut_end (PyData.int (i : Nat)) [] (nD js)
  have e2 : cutD (nD (i :: js)) (some 1) none = nD js := by simpa using e
  rw [e2]
theorem g_rate : kvG.lookup (Str.ofString "rate") = some 2 := by decide +kernel
theorem g_under : kvG.lookup (Str.ofString "under") = some 1 := by decide +kernel
theorem g_over : kvG.lookup (Str.ofString "over") = some 1 := by decide +kernel
theorem g_with : kvG.lookup (Str.ofString "with") = some 2 := by decide +kernel
theorem g_against : kvG.lookup (Str.ofString "against") = some 2 := by decide +kernel
theorem g_sum : kvG.lookup (Str.ofString "sum") = some 3 := by decide +kernel
theorem g_product : kvG.lookup (Str.ofString "product") = some 3 := by decide +kernel
theorem is_tie_val {ts : List Thing} {t : Tie} (ht : TieOk ts t) : F_is_tie [.dat (thsD ts), .dat (tieD t)] = some (.dat (.bool true)) := by
  cases t with
  | rate i j m =>
    obtain ⟨h1, t, h2, h3⟩ := ht
    have hj : j < ts.length := (List.getElem?_eq_some_iff.mp h2).1
    exact is_tie_mark (named := [i, j]) (m := m) g_rate (fun k hk => by simp at hk; omega) (show 2 ≤ 10 by decide) (by rw [in_marks]; decide +kernel) rfl h2 h3
  | edge o i m =>
    obtain ⟨t, h2, h3⟩ := ht
    have hi : i < ts.length := (List.getElem?_eq_some_iff.mp h2).1
    cases o with
    | false => exact is_tie_mark (named := [i]) (m := m) g_under (fun k hk => by simp at hk; omega) (show 1 ≤ 10 by decide) (by rw [in_marks]; decide +kernel) rfl h2 h3
    | true => exact is_tie_mark (named := [i]) (m := m) g_over (fun k hk => by simp at hk; omega) (show 1 ≤ 10 by decide) (by rw [in_marks]; decide +kernel) rfl h2 h3
  | two a i j =>
    obtain ⟨h1, h2, h3⟩ := ht
    cases a with
    | false => exact is_tie_free (i := i) (js := [j]) g_with (fun k hk => by simp at hk; omega) (show 2 ≤ 10 by decide) (by rw [in_marks]; decide +kernel) (by simp [h3])
    | true => exact is_tie_free (i := i) (js := [j]) g_against (fun k hk => by simp at hk; omega) (show 2 ≤ 10 by decide) (by rw [in_marks]; decide +kernel) (by simp [h3])
  | three p i j k =>
    obtain ⟨h1, h2, h3, h4, h5⟩ := ht
    cases p with
    | false => exact is_tie_free (i := i) (js := [j, k]) g_sum (fun k hk => by simp at hk; omega) (show 3 ≤ 10 by decide) (by rw [in_marks]; decide +kernel) (by simp [h4, h5])
    | true => exact is_tie_free (i := i) (js := [j, k]) g_product (fun k hk => by simp at hk; omega) (show 3 ≤ 10 by decide) (by rw [in_marks]; decide +kernel) (by simp [h4, h5])
end Law
/-! check_ties, check_things go through; a room of any spots. -/
namespace Law
open PySem L2 FL
theorem ctie_go {ts : List Thing} (B : Sl) : ∀ (ties : List Tie) (k : Nat) (s2 s3 : Sl) (rw : Ro), (∀ t ∈ ties, TieOk ts t) →
    ∃ s2' s3', forGo (gTp 2 (gsCons (gNm 2) (gsCons (gNm 3) gsNil))) (sIf (mNot (mTst (mCall F_is_tie (mCons (mVar 0) (mCons (mVar 3) mNil))))) sNo sNx) (((ties.map tieD).zipIdx k).map fun p => .tuple [.int (p.2 : Nat), p.1]) [.vl (.dat (thsD ts)), B, s2, s3] rw = some (.nx [.vl (.dat (thsD ts)), B, s2', s3'] rw) := by
  intro ties
  induction ties with
  | nil => intro k s2 s3 rw _; exact ⟨s2, s3, rfl⟩
  | cons t ties ih =>
    intro k s2 s3 rw h
    have hk := is_tie_val (h t List.mem_cons_self)
    obtain ⟨a, b, e⟩ := ih (k + 1) (.vl (.dat (.int (k : Nat)))) (.vl (.dat (tieD t))) rw fun z hz => h z (List.mem_cons_of_mem _ hz)
    refine ⟨a, b, ?_⟩
    rw [List.map_cons, List.zipIdx_cons, List.map_cons]
    rw [forGo_step (ss1 := [.vl (.dat (thsD ts)), B, .vl (.dat (.int (k : Nat))), .vl (.dat (tieD t))]) (ss2 := [.vl (.dat (thsD ts)), B, .vl (.dat (.int (k : Nat))), .vl (.dat (tieD t))]) (rw2 := rw) rfl ((ifF (rw1 := rw) (not_eq (b := true) (tst_eq (call_eq rfl hk)))).trans rfl)]
    exact e
theorem check_ties_val {ts : List Thing} {ties : List Tie} (h : ∀ t ∈ ties, TieOk ts t) (hl : ties.length ≤ 6) : F_check_ties [.dat (thsD ts), .dat (tisD ties)] = some (.dat .none) := by
  obtain ⟨a, b, e⟩ := ctie_go (.vl (.dat (tisD ties))) ties 0 .no .no (0, 0) h
  have ln : m1 lenD (mVar 1) [.vl (.dat (thsD ts)), .vl (.dat (tisD ties)), .no, .no] (0, 0) = some (.dat (.int (ties.length : Nat)), (0, 0)) := m1_eq (g := lenD) (m := mVar 1) rfl (by unfold lenD tisD; simp only [List.length_map])
  refine bodyP_nx (rw := (0, 0)) rfl ((seq_nx ((ifF (rw1 := (0, 0)) (tst_eq (m2_eq (g := gtD) (n := mC (.int 6)) ln rfl ?_))).trans rfl)).trans ((for_eq (xs := ((ties.map tieD).zipIdx 0).map fun p => .tuple [.int (p.2 : Nat), p.1]) (rw1 := (0, 0)) rfl).trans e))
  have : ¬ ((6 : Int) < (ties.length : Int)) := by omega
  simp [gtD, i2, gtI, this]
theorem in_names (z : Str) (zs : List Str) (h : z ∉ zs) : ∀ (ss : List Sl) (rw : Ro), ss[1]? = some (.own (zs.map .str)) → ss[3]? = some (.vl (.dat (.str z))) → mInO 1 (mVar 3) ss rw = some (.dat (.bool false), rw) := fun ss rw h1 h3 => by
  have dvs : ∀ zs : List Str, dVs (zs.map PyData.str) = some (zs.map V.str) := fun zs => by
    induction zs with
    | nil => rfl
    | cons j js ih =>
      rw [List.map_cons]
      unfold dVs
      rw [ih]
      rfl
  have iv : ∀ zs : List Str, z ∉ zs → inV (.str z) (zs.map V.str) = false := fun zs => by
    induction zs with
    | nil => intro _; rfl
    | cons j js ih =>
      intro h
      have q1 : z ≠ j := fun y => h (by rw [y]; exact List.mem_cons_self)
      have q2 := ih fun y => h (List.mem_cons_of_mem _ y)
      unfold inV at q2 ⊢
      rw [List.map_cons, List.any_cons, q2]
      simp [eqV, Ne.symm q1]
  have mv : mVar 3 ss rw = some (.dat (.str z), rw) := by
    unfold mVar
    rw [h3]
  unfold mInO bnd
  rw [mv]
  simp only []
  rw [h1]
  simp only [dV, dvs, iv zs h]
theorem cth_go (A : Sl) : ∀ (ts : List Thing) (zs : List Str) (k : Nat) (s2 s3 s4 : Sl) (rw : Ro), (∀ t ∈ ts, MarksOk t.2) → (∀ t ∈ ts, NameOk t.1) → (zs ++ ts.map (·.1)).Nodup → zs.length + ts.length ≤ 100 →
    ∃ zs' s2' s3' s4', forGo (gTp 2 (gsCons (gNm 2) (gsCons (gTp 2 (gsCons (gNm 3) (gsCons (gNm 4) gsNil))) gsNil))) (sSeq (sIf (mOr (mTst (mInO 1 (mVar 3))) (mOr (mNot (mTst (mCall F_is_name (mCons (mVar 3) mNil)))) (mNot (mTst (mCall F_are_marks (mCons (mVar 4) mNil)))))) sNo sNx) (sApp 1 (mVar 3))) (((ts.map thD).zipIdx k).map fun p => .tuple [.int (p.2 : Nat), p.1]) [A, .own (zs.map .str), s2, s3, s4] rw = some (.nx [A, zs', s2', s3', s4'] rw) := by
  intro ts
  induction ts with
  | nil => intro zs k s2 s3 s4 rw _ _ _ _; exact ⟨_, s2, s3, s4, rfl⟩
  | cons t ts ih =>
    intro zs k s2 s3 s4 rw hm hn hd hl
    have h1 := marks_val1 (hm t List.mem_cons_self)
    have h2 := name_val1 (hn t List.mem_cons_self)
    rw [List.map_cons] at hd
    have nz : t.1 ∉ zs := fun z => by
      rw [List.nodup_append] at hd
      exact hd.2.2 t.1 z t.1 List.mem_cons_self rfl
    rw [List.length_cons] at hl
    obtain ⟨a, b, c, d, e⟩ := ih (zs ++ [t.1]) (k + 1) (.vl (.dat (.int (k : Nat)))) (.vl (.dat (.str t.1))) (.vl (.dat (mkD t.2))) rw (fun z hz => hm z (List.mem_cons_of_mem _ hz)) (fun z hz => hn z (List.mem_cons_of_mem _ hz)) (by rw [List.append_assoc]; exact hd) (by rw [List.length_append]; simp; omega)
    refine ⟨a, b, c, d, ?_⟩
    rw [List.map_cons, List.zipIdx_cons, List.map_cons]
    have st := app_eq (i := 1) (m := mVar 3) (ds := zs.map .str) (d := .str t.1) (ss := [A, .own (zs.map .str), .vl (.dat (.int (k : Nat))), .vl (.dat (.str t.1)), .vl (.dat (mkD t.2))]) (rw := rw) rfl rfl (by rw [List.length_map]; omega)
    rw [forGo_step (ss1 := [A, .own (zs.map .str), .vl (.dat (.int (k : Nat))), .vl (.dat (.str t.1)), .vl (.dat (mkD t.2))]) rfl ((seq_nx ((ifF (rw1 := rw) (or_false (tst_eq (in_names t.1 zs nz _ rw rfl rfl)) (or_false (not_eq (b := true) (tst_eq (call_eq (cons_eq (m := mVar 3) rfl nil_eq) h2))) (not_eq (b := true) (tst_eq (call_eq (cons_eq (m := mVar 4) rfl nil_eq) h1)))))).trans rfl)).trans st)]
    have e9 : (zs.map PyData.str ++ [.str t.1]) = (zs ++ [t.1]).map .str := by rw [List.map_append]; rfl
    rw [e9]
    exact e
theorem check_things_val {ts : List Thing} (h : HouseOk ts) : F_check_things [.dat (thsD ts)] = some (.dat .none) := by
  have l1 := h.l1
  have l3 := h.l3
  obtain ⟨z, a, b, c, e⟩ := cth_go (.vl (.dat (thsD ts))) ts [] 0 .no .no .no (0, 0) h.mks h.nm h.nd (by simp; omega)
  refine bodyP_nx (rw := (0, 0)) rfl ((seq_nx ((ifF (rw1 := (0, 0)) (not_eq (b := true) (tst_eq (chain_eq (g := leD) (g' := leD) (a := mC (.int 1)) (c := mC (.int 3)) rfl (m1_eq (g := lenD) (m := mVar 0) rfl (len_ths ts)) ?_ rfl ?_)))).trans rfl)).trans ((seq_nx (ss1 := [.vl (.dat (thsD ts)), .own [], .no, .no, .no]) (rw1 := (0, 0)) rfl).trans ((for_eq (xs := ((ts.map thD).zipIdx 0).map fun p => .tuple [.int (p.2 : Nat), p.1]) (rw1 := (0, 0)) rfl).trans e)))
  · have : (1 : Int) ≤ (ts.length : Int) := by omega
    simp [leD, i2, leI, this]
  · have : (ts.length : Int) ≤ 3 := by omega
    simp [leD, i2, leI, this]
/-! ### a room of spots of the things -/
inductive RoomIn : List Thing → List Spot → Prop
  | nil : RoomIn [] []
  | cons {t : Thing} {ts : List Thing} {s : Spot} {r : List Spot} (h : s ∈ spotsOf t.2.length) (q : RoomIn ts r) : RoomIn (t :: ts) (s :: r)
theorem RoomIn.ok {ts : List Thing} {r : List Spot} (h : RoomIn ts r) : RoomOk ts.length r := by
  induction h with
  | nil => exact ⟨rfl, fun s hs => by cases hs⟩
  | cons h _ ih =>
    obtain ⟨h1, h2⟩ := ih
    refine ⟨by simp [h1], fun z hz => ?_⟩
    rcases List.mem_cons.mp hz with rfl | hz
    · exact spots_trend h
    · exact h2 z hz
theorem any_go (ns : List Int) (B : Sl) : ∀ (ts : List Thing) (acc : List Spot) (s3 s4 s5 : Sl) (rw : Ro), Marked ts → acc.length + ts.length ≤ 100 → 0 ≤ rw.1 →
    ∃ (r : List Spot) (s3' s4' s5' : Sl) (rw' : Ro), forGo (gTp 2 (gsCons (gNm 3) (gsCons (gNm 4) gsNil))) (sSeq (sSet 5 (mCall F__law_spots (mCons (mVar 4) mNil))) (sApp 2 (m2 ixD (mVar 5) (mCallR 0 (F__law_taken ns) (mCons (m1 lenD (mVar 5)) mNil))))) (ts.map thD) [.row, B, .own (acc.map spD), s3, s4, s5] rw = some (.nx [.row, B, .own ((acc ++ r).map spD), s3', s4', s5'] rw') ∧ RoomIn ts r ∧ 0 ≤ rw'.1 := by
  intro ts
  induction ts with
  | nil => intro acc s3 s4 s5 rw _ _ h; exact ⟨[], s3, s4, s5, rw, by rw [List.append_nil]; rfl, .nil, h⟩
  | cons t ts ih =>
    intro acc s3 s4 s5 rw hm hl h
    obtain ⟨h1, h3⟩ := hm t List.mem_cons_self
    rw [List.length_cons] at hl
    have sv := lspots_val h1 h3
    have sl := spots_len h3
    have st1 := set_eq (i := 5) (ss := [.row, B, .own (acc.map spD), .vl (.dat (.str t.1)), .vl (.dat (mkD t.2)), s5]) (rw := rw) (call_eq (cons_eq (m := mVar 4) rfl nil_eq) sv) (by simp)
    generalize hS : spotsOf t.2.length = spots at sl st1
    obtain ⟨v, rw1, e1, v0, v1, r1⟩ := draw (ns := ns) (i := 0) (ma := mCons (m1 lenD (mVar 5)) mNil) (ss := [.row, B, .own (acc.map spD), .vl (.dat (.str t.1)), .vl (.dat (mkD t.2)), .vl (.dat (.list (spots.map spD)))]) (rw := rw) (m := (spots.length : Nat)) rfl (cons_eq (m1_eq (g := lenD) (m := mVar 5) rfl (by unfold lenD; simp only [List.length_map])) nil_eq) (by omega) h
    obtain ⟨j, rfl⟩ : ∃ j : Nat, v = (j : Int) := ⟨v.toNat, by omega⟩
    obtain ⟨s, hs⟩ : ∃ s, spots[j]? = some s := ⟨_, List.getElem?_eq_getElem (by omega)⟩
    have ax := atI_mapD spD hs
    have st2 := app_eq (i := 2) (ds := acc.map spD) (d := spD s) (ss := [.row, B, .own (acc.map spD), .vl (.dat (.str t.1)), .vl (.dat (mkD t.2)), .vl (.dat (.list (spots.map spD)))]) (rw := rw) rfl (m2_eq (g := ixD) (m := mVar 5) rfl e1 (by unfold ixD; simp only [ax])) (by rw [List.length_map]; omega)
    obtain ⟨r, a, b, c, rw', e, q1, q2⟩ := ih (acc ++ [s]) (.vl (.dat (.str t.1))) (.vl (.dat (mkD t.2))) (.vl (.dat (.list (spots.map spD)))) rw1 (fun q hq => hm q (List.mem_cons_of_mem _ hq)) (by rw [List.length_append]; simp; omega) r1
    refine ⟨s :: r, a, b, c, rw', ?_, .cons (by rw [hS]; exact List.mem_of_getElem? hs) q1, q2⟩
    rw [List.map_cons, forGo_step (ss1 := [.row, B, .own (acc.map spD), .vl (.dat (.str t.1)), .vl (.dat (mkD t.2)), s5]) rfl ((seq_nx st1).trans st2)]
    have e9 : (acc.map spD ++ [spD s]) = (acc ++ [s]).map spD := by rw [List.map_append]; rfl
    have e8 : acc ++ s :: r = acc ++ [s] ++ r := by simp
    rw [e9, e8]
    exact e
theorem any_val (ns : List Int) {ts : List Thing} (hm : Marked ts) (hl : ts.length ≤ 3) {rw : Ro} (h : 0 ≤ rw.1) : ∃ r rw', F__law_any ns [.dat (thsD ts)] rw = some (.dat (rmD r), rw') ∧ RoomIn ts r ∧ 0 ≤ rw'.1 := by
  obtain ⟨r, a, b, c, rw', e, q1, q2⟩ := any_go ns (.vl (.dat (thsD ts))) ts [] .no .no .no rw hm (by simp; omega) h
  rw [List.nil_append] at e
  refine ⟨r, rw', bodyR_rt rfl ((seq_nx (ss1 := [.row, .vl (.dat (thsD ts)), .own [], .no, .no, .no]) (rw1 := rw) rfl).trans ((seq_nx ((for_eq (xs := ts.map thD) (rw1 := rw) rfl).trans e)).trans rfl)), q1, q2⟩
/-! ### check_room -/
theorem eqv_spot (a b : Spot) : PyData.eqv (spD a) (spD b) = decide (a = b) := by
  obtain ⟨a1, a2⟩ := a
  obtain ⟨b1, b2⟩ := b
  simp only [spD, PyData.eqv, PyData.eqvAll, Bool.and_true]
  by_cases h1 : a1 = b1 <;> by_cases h2 : a2 = b2 <;> simp [h1, h2]
theorem canLay_spots : ∀ xs : List Spot, PyData.canLayAll0 (xs.map spD) = true
  | [] => rfl
  | x :: xs => by
    rw [List.map_cons]
    unfold PyData.canLayAll0
    rw [canLay_spots xs]
    rfl
theorem depth_spot (s : Spot) : PyData.depth (spD s) = 1 := by
  unfold spD
  simp [PyData.depth, PyData.depthAll]
theorem depth_spots : ∀ xs : List Spot, PyData.depthAll (xs.map spD) ≤ 1
  | [] => by simp [PyData.depthAll]
  | x :: xs => by
    have := depth_spots xs
    rw [List.map_cons]
    unfold PyData.depthAll
    rw [depth_spot]
    omega
theorem shaped_spots (xs : List Spot) : SeqAt.shaped (.list (xs.map spD)) = true := by
  unfold SeqAt.shaped PyData.canLay0 PyData.depth
  rw [canLay_spots, Bool.true_and, decide_eq_true]
  have := depth_spots xs
  omega
theorem shaped_spot (s : Spot) : SeqAt.shaped (spD s) = true := by
  unfold SeqAt.shaped
  rw [depth_spot]
  rfl
theorem in_spots (s : Spot) (xs : List Spot) : inO (spD s) (.list (xs.map spD)) = some (decide (s ∈ xs)) := by
  have e : inO (spD s) (.list (xs.map spD)) = if SeqAt.shaped (spD s) = true ∧ SeqAt.shaped (.list (xs.map spD)) = true then some ((xs.map spD).any fun z => PyData.eqv z (spD s)) else none := rfl
  rw [e, if_pos ⟨shaped_spot s, shaped_spots xs⟩]
  congr 1
  rw [List.any_map]
  have f : ((fun z => PyData.eqv z (spD s)) ∘ spD) = fun a => decide (a = s) := by
    funext a
    exact eqv_spot a s
  rw [f]
  by_cases h : s ∈ xs
  · rw [decide_eq_true h, List.any_eq_true]
    exact ⟨s, h, by simp⟩
  · rw [decide_eq_false h, List.any_eq_false]
    intro a ha q
    have : a = s := by simpa using q
    subst this
    exact h ha
/-- a room whose first spots are spots, then one that is none -/
inductive BadIn : List Thing → List Spot → Prop
  | here {t : Thing} {ts : List Thing} {s : Spot} {r : List Spot} (h : s ∉ spotsOf t.2.length) : BadIn (t :: ts) (s :: r)
  | there {t : Thing} {ts : List Thing} {s : Spot} {r : List Spot} (h : s ∈ spotsOf t.2.length) (q : BadIn ts r) : BadIn (t :: ts) (s :: r)
abbrev msgS : Mx Vl := mJs [(mC (.str (PySem.Str.ofString "no room: "))), (mFmt (mVar 3)), (mC (.str (PySem.Str.ofString " has no such place and trend")))] PySem.Str.empty
theorem js_cons {m : Mx Vl} {ms : List (Mx Vl)} {acc y : Str} {ss : List Sl} {rw rw1 : Ro} (h1 : m ss rw = some (.dat (.str y), rw1)) (h2 : (acc ++ y).length ≤ 100000) : mJs (m :: ms) acc ss rw = mJs ms (acc ++ y) ss rw1 := by
  show bnd m _ ss rw = _
  unfold bnd
  rw [h1]
  simp only []
  rw [if_pos h2]
theorem msgS_val {z : Str} (hz : z.length ≤ 100) (ss : List Sl) (rw : Ro) (h3 : ss[3]? = some (.vl (.dat (.str z)))) : ∃ y, msgS ss rw = some (.dat (.str y), rw) := by
  have mv : mVar 3 ss rw = some (.dat (.str z), rw) := by
    unfold mVar
    rw [h3]
  have f : mFmt (mVar 3) ss rw = some (.dat (.str z), rw) := by
    unfold mFmt bnd opt
    rw [mv]
    simp only []
    rw [if_pos (by omega)]
  have l1 : (PySem.Str.empty ++ PySem.Str.ofString "no room: ").length = 9 := by decide +kernel
  have l2 : (PySem.Str.ofString " has no such place and trend").length = 28 := by decide +kernel
  refine ⟨PySem.Str.empty ++ PySem.Str.ofString "no room: " ++ z ++ PySem.Str.ofString " has no such place and trend", ?_⟩
  rw [msgS, js_cons (y := PySem.Str.ofString "no room: ") rfl (by rw [l1]; decide), js_cons f (by rw [Str.length_append, l1]; omega), js_cons (y := PySem.Str.ofString " has no such place and trend") rfl (by rw [Str.length_append, Str.length_append, l1, l2]; omega)]
  rfl
abbrev crG : PyData → List Sl → Option (List Sl) := gTp 2 (gsCons (gTp 2 (gsCons (gNm 3) (gsCons (gNm 4) gsNil))) (gsCons (gNm 5) gsNil))
abbrev crB : Sx := sIf (mTst (m2 ninD (mVar 5) (mCall F_states (mCons (mVar 4) mNil)))) (sRaise 1 msgS) sNx
theorem cr_tst {t : Thing} (h1 : 1 ≤ t.2.length) (h3 : t.2.length ≤ 3) (s : Spot) (A B C : Sl) (rw : Ro) : mTst (m2 ninD (mVar 5) (mCall F_states (mCons (mVar 4) mNil))) [A, B, C, .vl (.dat (.str t.1)), .vl (.dat (mkD t.2)), .vl (.dat (spD s))] rw = some (!decide (s ∈ spotsOf t.2.length), rw) := by
  have sv := states_val h1 h3
  generalize spotsOf t.2.length = spots at sv
  refine tst_eq (m2_eq (g := ninD) (m := mVar 5) rfl (call_eq (cons_eq (m := mVar 4) rfl nil_eq) sv) ?_)
  unfold ninD
  simp only [in_spots]
theorem cr_good (A B C : Sl) {ts : List Thing} {r : List Spot} (h : RoomIn ts r) : ∀ (s3 s4 s5 : Sl) (rw : Ro), Marked ts → ∃ s3' s4' s5', forGo crG crB (zpD (ts.map thD) (r.map spD)) [A, B, C, s3, s4, s5] rw = some (.nx [A, B, C, s3', s4', s5'] rw) := by
  induction h with
  | nil => intro s3 s4 s5 rw _; exact ⟨s3, s4, s5, rfl⟩
  | @cons t ts s r h q ih =>
    intro s3 s4 s5 rw hm
    obtain ⟨h1, h3⟩ := hm t List.mem_cons_self
    obtain ⟨a, b, c, e⟩ := ih (.vl (.dat (.str t.1))) (.vl (.dat (mkD t.2))) (.vl (.dat (spD s))) rw fun q hq => hm q (List.mem_cons_of_mem _ hq)
    refine ⟨a, b, c, ?_⟩
    have tv := cr_tst h1 h3 s A B C rw
    rw [decide_eq_true h] at tv
    rw [List.map_cons, List.map_cons]
    unfold zpD
    rw [forGo_step (ss1 := [A, B, C, .vl (.dat (.str t.1)), .vl (.dat (mkD t.2)), .vl (.dat (spD s))]) rfl ((ifF tv).trans rfl)]
    exact e
theorem cr_bad (A B C : Sl) {ts : List Thing} {r : List Spot} (h : BadIn ts r) : ∀ (s3 s4 s5 : Sl) (rw : Ro), Marked ts → (∀ t ∈ ts, NameOk t.1) → ∃ ss', forGo crG crB (zpD (ts.map thD) (r.map spD)) [A, B, C, s3, s4, s5] rw = some (.er ⟨1, []⟩ ss' rw) := by
  induction h with
  | @here t ts s r h =>
    intro s3 s4 s5 rw hm hn
    obtain ⟨h1, h3⟩ := hm t List.mem_cons_self
    have hz := (hn t List.mem_cons_self).2.1
    have tv := cr_tst h1 h3 s A B C rw
    rw [decide_eq_false h] at tv
    obtain ⟨y, hy⟩ := msgS_val (z := t.1) (by omega) [A, B, C, .vl (.dat (.str t.1)), .vl (.dat (mkD t.2)), .vl (.dat (spD s))] rw rfl
    refine ⟨[A, B, C, .vl (.dat (.str t.1)), .vl (.dat (mkD t.2)), .vl (.dat (spD s))], ?_⟩
    rw [List.map_cons, List.map_cons]
    unfold zpD
    refine forGo_er (ss1 := [A, B, C, .vl (.dat (.str t.1)), .vl (.dat (mkD t.2)), .vl (.dat (spD s))]) rfl ((ifT tv).trans ?_)
    unfold sRaise
    rw [hy]
  | @there t ts s r h q ih =>
    intro s3 s4 s5 rw hm hn
    obtain ⟨h1, h3⟩ := hm t List.mem_cons_self
    obtain ⟨ss', e⟩ := ih (.vl (.dat (.str t.1))) (.vl (.dat (mkD t.2))) (.vl (.dat (spD s))) rw (fun q hq => hm q (List.mem_cons_of_mem _ hq)) fun q hq => hn q (List.mem_cons_of_mem _ hq)
    refine ⟨ss', ?_⟩
    have tv := cr_tst h1 h3 s A B C rw
    rw [decide_eq_true h] at tv
    rw [List.map_cons, List.map_cons]
    unfold zpD
    rw [forGo_step (ss1 := [A, B, C, .vl (.dat (.str t.1)), .vl (.dat (mkD t.2)), .vl (.dat (spD s))]) rfl ((ifF tv).trans rfl)]
    exact e
end Law
/-! check_room, broken, odd rooms, refused. -/
namespace Law
open PySem L2 FL
abbrev hsD (ts : List Thing) (ties : List Tie) : Vl := .hse (ts.map thD) (ties.map tieD)
theorem len_room (r : List Spot) : lenD (.dat (rmD r)) = some (.dat (.int (r.length : Nat))) := by
  unfold lenD rmD
  simp only [List.length_map]
theorem len_list (ts : List Thing) : lenD (.dat (.list (ts.map thD))) = some (.dat (.int (ts.length : Nat))) := len_ths ts
theorem ne_len (a b : Nat) : neD (.dat (.int (a : Nat))) (.dat (.int (b : Nat))) = some (.dat (.bool (!decide (a = b)))) := by
  unfold neD
  simp only [eq_int]
  by_cases h : a = b
  · subst h; simp
  · have : ¬ ((a : Int) = (b : Int)) := by omega
    simp [h, this]
abbrev msgL : Mx Vl := mJs [(mC (.str (PySem.Str.ofString "no room: "))), (mFmt (m1 lenD (mVar 1))), (mC (.str (PySem.Str.ofString " of "))), (mFmt (m1 lenD (mVar 2))), (mC (.str (PySem.Str.ofString " things")))] PySem.Str.empty
theorem small_str : ∀ n : Fin 12, (Str.ofString (toString ((n : Nat) : Int))).length ≤ 10 ∧ (((n : Nat) : Int)).natAbs.log2 < 1920 := by decide +kernel
theorem msgL_val {a b : Nat} (ha : a < 12) (hb : b < 12) (ss : List Sl) (rw : Ro) (h1 : m1 lenD (mVar 1) ss rw = some (.dat (.int (a : Nat)), rw)) (h2 : m1 lenD (mVar 2) ss rw = some (.dat (.int (b : Nat)), rw)) : ∃ y, msgL ss rw = some (.dat (.str y), rw) := by
  obtain ⟨sa, la⟩ := small_str ⟨a, ha⟩
  obtain ⟨sb, lb⟩ := small_str ⟨b, hb⟩
  have fa : mFmt (m1 lenD (mVar 1)) ss rw = some (.dat (.str (Str.ofString (toString ((a : Nat) : Int)))), rw) := by
    unfold mFmt
    show bnd (m1 lenD (mVar 1)) _ ss rw = _
    unfold bnd opt
    rw [h1]
    simp only []
    rw [if_pos la]
  have fb : mFmt (m1 lenD (mVar 2)) ss rw = some (.dat (.str (Str.ofString (toString ((b : Nat) : Int)))), rw) := by
    unfold mFmt
    show bnd (m1 lenD (mVar 2)) _ ss rw = _
    unfold bnd opt
    rw [h2]
    simp only []
    rw [if_pos lb]
  have l1 : (PySem.Str.empty ++ PySem.Str.ofString "no room: ").length = 9 := by decide +kernel
  have l2 : (PySem.Str.ofString " of ").length = 4 := by decide +kernel
  have l3 : (PySem.Str.ofString " things").length = 7 := by decide +kernel
  simp only at sa sb
  refine ⟨PySem.Str.empty ++ PySem.Str.ofString "no room: " ++ Str.ofString (toString ((a : Nat) : Int)) ++ PySem.Str.ofString " of " ++ Str.ofString (toString ((b : Nat) : Int)) ++ PySem.Str.ofString " things", ?_⟩
  rw [msgL, js_cons (y := PySem.Str.ofString "no room: ") rfl (by rw [l1]; decide), js_cons fa (by rw [Str.length_append, l1]; omega), js_cons (y := PySem.Str.ofString " of ") rfl (by rw [Str.length_append, Str.length_append, l1, l2]; omega), js_cons fb (by rw [Str.length_append, Str.length_append, Str.length_append, l1, l2]; omega), js_cons (y := PySem.Str.ofString " things") rfl (by rw [Str.length_append, Str.length_append, Str.length_append, Str.length_append, l1, l2, l3]; omega)]
  rfl
theorem raise_eq {c : Nat} {m : Mx Vl} {ss : List Sl} {rw rw1 : Ro} {x : Vl} (h : m ss rw = some (x, rw1)) : sRaise c m ss rw = some (.er ⟨c, []⟩ ss rw1) := by
  unfold sRaise
  rw [h]
theorem check_good {ts : List Thing} {ties : List Tie} {r : List Spot} (hm : Marked ts) (h : RoomIn ts r) : F_check_room [hsD ts ties, .dat (rmD r)] = some (.ok (.dat .none)) := by
  obtain ⟨a, b, c, e⟩ := cr_good (.vl (hsD ts ties)) (.vl (.dat (rmD r))) (.vl (.dat (.list (ts.map thD)))) h .no .no .no (0, 0) hm
  refine bodyX_nx (rw := (0, 0)) rfl ((seq_nx (ss1 := [.vl (hsD ts ties), .vl (.dat (rmD r)), .vl (.dat (.list (ts.map thD))), .no, .no, .no]) (rw1 := (0, 0)) rfl).trans ((seq_nx ((ifF (rw1 := (0, 0)) (tst_eq (m2_eq (g := neD) (m1_eq (g := lenD) (m := mVar 1) rfl (len_room r)) (m1_eq (g := lenD) (m := mVar 2) rfl (len_list ts)) ?_))).trans rfl)).trans ((for_eq (xs := zpD (ts.map thD) (r.map spD)) (rw1 := (0, 0)) rfl).trans e)))
  rw [ne_len, decide_eq_true h.ok.1]
  rfl
theorem check_len {ts : List Thing} {ties : List Tie} {r : List Spot} (h : r.length ≠ ts.length) (h1 : r.length < 12) (h2 : ts.length < 12) : F_check_room [hsD ts ties, .dat (rmD r)] = some (.er ⟨1, []⟩) := by
  have e1 := m1_eq (g := lenD) (m := mVar 1) (ss := [.vl (hsD ts ties), .vl (.dat (rmD r)), .vl (.dat (.list (ts.map thD))), .no, .no, .no]) (rw := (0, 0)) rfl (len_room r)
  have e2 := m1_eq (g := lenD) (m := mVar 2) (ss := [.vl (hsD ts ties), .vl (.dat (rmD r)), .vl (.dat (.list (ts.map thD))), .no, .no, .no]) (rw := (0, 0)) rfl (len_list ts)
  obtain ⟨y, hy⟩ := msgL_val h1 h2 _ _ e1 e2
  refine bodyX_er (rw := (0, 0)) (ss := [.vl (hsD ts ties), .vl (.dat (rmD r)), .vl (.dat (.list (ts.map thD))), .no, .no, .no]) rfl ((seq_nx (ss1 := [.vl (hsD ts ties), .vl (.dat (rmD r)), .vl (.dat (.list (ts.map thD))), .no, .no, .no]) (rw1 := (0, 0)) rfl).trans (seq_er ((ifT (rw1 := (0, 0)) (tst_eq (m2_eq (g := neD) e1 e2 ?_))).trans ?_)))
  · rw [ne_len, decide_eq_false h]
    rfl
  · exact raise_eq hy
theorem check_bad {ts : List Thing} {ties : List Tie} {r : List Spot} (hm : Marked ts) (hn : ∀ t ∈ ts, NameOk t.1) (hl : r.length = ts.length) (h : BadIn ts r) : F_check_room [hsD ts ties, .dat (rmD r)] = some (.er ⟨1, []⟩) := by
  obtain ⟨ss', e⟩ := cr_bad (.vl (hsD ts ties)) (.vl (.dat (rmD r))) (.vl (.dat (.list (ts.map thD)))) h .no .no .no (0, 0) hm hn
  refine bodyX_er (rw := (0, 0)) (ss := ss') rfl ((seq_nx (ss1 := [.vl (hsD ts ties), .vl (.dat (rmD r)), .vl (.dat (.list (ts.map thD))), .no, .no, .no]) (rw1 := (0, 0)) rfl).trans ((seq_nx ((ifF (rw1 := (0, 0)) (tst_eq (m2_eq (g := neD) (m1_eq (g := lenD) (m := mVar 1) rfl (len_room r)) (m1_eq (g := lenD) (m := mVar 2) rfl (len_list ts)) ?_))).trans rfl)).trans ((for_eq (xs := zpD (ts.map thD) (r.map spD)) (rw1 := (0, 0)) rfl).trans e)))
  rw [ne_len, decide_eq_true hl]
  rfl
theorem dropX_ok {m : Mx Res} {ss : List Sl} {rw rw1 : Ro} {x : Vl} (h : m ss rw = some (.ok x, rw1)) : sDropX m ss rw = some (.nx ss rw1) := by
  unfold sDropX
  rw [h]
theorem dropX_er {m : Mx Res} {ss : List Sl} {rw rw1 : Ro} {x : Exn} (h : m ss rw = some (.er x, rw1)) : sDropX m ss rw = some (.er x ss rw1) := by
  unfold sDropX
  rw [h]
theorem sl_take {r : List Spot} {k : Nat} (h : k ≤ r.length) : slD (.dat (rmD r)) none (some (k : Int)) = some (.dat (rmD (r.take k))) := by
  unfold slD rmD
  simp only []
  have : cutD (r.map spD) none (some (k : Int)) = (r.take k).map spD := by
    unfold cutD
    rw [HT.sIx_none, HT.sIx_nat, List.length_map, Nat.min_eq_left h]
    simp
  rw [this]
theorem sl_drop {r : List Spot} {k : Nat} (h : k ≤ r.length) : slD (.dat (rmD r)) (some (k : Int)) none = some (.dat (rmD (r.drop k))) := by
  unfold slD rmD
  simp only []
  have : cutD (r.map spD) (some (k : Int)) none = (r.drop k).map spD := by
    unfold cutD
    rw [HT.sIx_none, HT.sIx_nat, List.length_map, Nat.min_eq_left h]
    rw [← List.map_drop, List.take_of_length_le (by simp)]
  rw [this]
theorem add_rooms {a b : List Spot} (h : a.length + b.length ≤ 100000) : addD (.dat (rmD a)) (.dat (rmD b)) = some (.dat (rmD (a ++ b))) := by
  unfold addD rmD
  simp only [List.length_map]
  rw [if_pos h, List.map_append]
def oddS (n : Nat) : List Spot := [((2 * n : Int) + 1, 0), (0 - 1, 0), (1, 1), (0, 2), ((2 * n : Int), 0 - 2)]
theorem odd_not : ∀ n : Fin 4, 1 ≤ (n : Nat) → ∀ x ∈ oddS n, x ∉ spotsOf n := by decide +kernel
theorem bad_at {ts : List Thing} {r : List Spot} (h : RoomIn ts r) : ∀ {k : Nat} {t : Thing} {x : Spot}, ts[k]? = some t → x ∉ spotsOf t.2.length → BadIn ts (r.take k ++ [x] ++ r.drop (k + 1)) := by
  induction h with
  | nil => intro k t x hk; simp at hk
  | @cons t0 ts s r h q ih =>
    intro k t x hk hx
    cases k with
    | zero =>
      have : t0 = t := by simpa using hk
      subst this
      exact .here hx
    | succ k => exact .there h (ih (by simpa using hk) hx)
abbrev oddTail : Sx := sSeq (sSet 6 (mList (mLst (mCons (mTup (mCons (m2 addD (mVar 4) (mC (.int 1))) (mCons (mC (.int 0)) mNil))) (mCons (mTup (mCons (m2 subD (mC (.int 0)) (mC (.int 1))) (mCons (mC (.int 0)) mNil))) (mCons (mTup (mCons (mC (.int 1)) (mCons (mC (.int 1)) mNil))) (mCons (mTup (mCons (mC (.int 0)) (mCons (mC (.int 2)) mNil))) (mCons (mTup (mCons (mVar 4) (mCons (m2 subD (mC (.int 0)) (mC (.int 2))) mNil))) mNil)))))))) (sRet (m2 addD (m2 addD (mSl (mVar 2) mNone (mSome (mVar 3))) (mTup (mCons (m2 ixD (mVar 6) (m2 subD (mVar 5) (mC (.int 2)))) mNil))) (mSl (mVar 2) (mSome (m2 addD (mVar 3) (mC (.int 1)))) mNone)))
end Law
/-! Small words of the law's def. -/
namespace Law
open PySem L2 FL
theorem HouseOk.marked {ts : List Thing} (h : HouseOk ts) : Marked ts := fun t ht => ⟨(h.mks t ht).l1, (h.mks t ht).l3⟩
theorem make_eq {F1 F2 : List Vl → Option Vl} {ma : Mx (List Vl)} {ss : List Sl} {rw rw1 : Ro} {ts ties : List PyData} (h1 : ma ss rw = some ([.dat (.list ts), .dat (.list ties)], rw1)) (h2 : F1 [.dat (.list ts)] = some (.dat .none)) (h3 : F2 [.dat (.list ts), .dat (.list ties)] = some (.dat .none)) : mMake F1 F2 ma ss rw = some (.hse ts ties, rw1) := by
  unfold mMake bnd
  rw [h1]
  simp only []
  rw [h2, h3]
  rfl
theorem bor_eq {i : Nat} {m : Mx Bool} {ss : List Sl} {rw rw1 : Ro} {b : Bool} (h : m (noRow (frz i ss)) (0, 0) = some (b, rw1)) : mBor i m ss rw = some (b, rw) := by
  unfold mBor
  rw [h]
theorem ok_eq {m : Mx Res} {ss : List Sl} {rw rw1 : Ro} {x : Vl} (h : m ss rw = some (.ok x, rw1)) : mOk m ss rw = some (x, rw1) := by
  unfold mOk bnd
  rw [h]
  rfl
end Law
/-! All rooms, rooms. -/
namespace Law
open PySem L2 FL
theorem all_val {ts : List Thing} (hm : Marked ts) (hl : ts.length ≤ 3) (ties : List PyData) : F_all_rooms [.hse (ts.map thD) ties] = some (.dat (.list ((allR ts).map rmD))) := by
  have go := lcGo_map (g := gTp 2 (gsCons (gNm 1) (gsCons (gNm 2) gsNil))) (tt := mYes) (te := mCall F_states (mCons (mVar 2) mNil)) (ss := [.vl (.hse (ts.map thD) ties), .no, .no]) (rw := (0, 0)) thD (fun t => chD (spotsOf t.2.length)) (fun _ => true) ts fun t ht => by
    obtain ⟨h1, h3⟩ := hm t ht
    exact ⟨[.vl (.hse (ts.map thD) ties), .vl (.dat (.str t.1)), .vl (.dat (mkD t.2))], rfl, rfl, fun _ => call_eq rfl (states_val h1 h3)⟩
  rw [List.filter_eq_self.mpr (fun _ _ => rfl)] at go
  have lc := (lc_eq (vs := [1, 2]) (mi := mSeq (mList (mHse F_House_things (mVar 0)))) (ss := [.vl (.hse (ts.map thD) ties), .no, .no]) (rw := (0, 0)) (rw1 := (0, 0)) rfl rfl (by rw [List.length_map]; omega)).trans go
  have ov := one_val (cs := ts.map fun t => spotsOf t.2.length) (fun c hc => by
    obtain ⟨t, ht, rfl⟩ := List.mem_map.mp hc
    exact (spots_len (hm t ht).2).1) (by rw [List.length_map]; exact hl)
  rw [List.map_map, prodC_go] at ov
  refine bodyP_rt (v := .dat (.list ((allR ts).map rmD))) (rw := (0, 0)) rfl ?_
  exact ret_eq (call_eq (cons_eq (list_eq lc) rfl) ov)
/-- what a room is refused for: none -/
theorem rooms_val {ts : List Thing} (hm : Marked ts) (hl : ts.length ≤ 3) {ties : List Tie} (ht : ∀ t ∈ ties, TieOk ts t) (hz : (allR ts).length ≤ 100000) : F_rooms [.hse (ts.map thD) (ties.map tieD)] = some ((roomsOf ts ties).map rmD) := by
  have av := all_val hm hl (ties.map tieD)
  refine bodyL_rl (rw := (0, 0)) rfl ?_
  refine (seq_nx (ss1 := [.vl (.hse (ts.map thD) (ties.map tieD)), .vl (.dat (tisD ties)), .no]) (rw1 := (0, 0)) rfl).trans ?_
  have go := lcGo_map (g := gNm 2) (tt := mTst (m2 isND (mCall F_first_broken (mCons (mVar 1) (mCons (mVar 2) mNil))) (mC .none))) (te := mVar 2) (ss := [.vl (.hse (ts.map thD) (ties.map tieD)), .vl (.dat (tisD ties)), .no]) (rw := (0, 0)) rmD rmD (fun r => (firstB r ties 0).isNone) (allR ts) fun r hr => by
    have fv := first_val (all_ok hr) ht
    refine ⟨[.vl (.hse (ts.map thD) (ties.map tieD)), .vl (.dat (tisD ties)), .vl (.dat (rmD r))], rfl, ?_, fun _ => rfl⟩
    cases q : firstB r ties 0 with
    | none =>
      rw [q] at fv
      simp [mTst, m2, mCall, mCons, mNil, mVar, mC, bnd, opt, pur, fv, optD, isND]
    | some i =>
      rw [q] at fv
      simp [mTst, m2, mCall, mCons, mNil, mVar, mC, bnd, opt, pur, fv, optD, isND]
  have src : mSeq (mCall F_all_rooms (mCons (mVar 0) mNil)) [.vl (.hse (ts.map thD) (ties.map tieD)), .vl (.dat (tisD ties)), .no] (0, 0) = some ((allR ts).map rmD, (0, 0)) := by
    exact seq_eq (call_eq rfl av) rfl
  have e := (lc_eq (g := gNm 2) (tt := mTst (m2 isND (mCall F_first_broken (mCons (mVar 1) (mCons (mVar 2) mNil))) (mC .none))) (te := mVar 2) (vs := [2]) rfl src (by rw [List.length_map]; exact hz)).trans go
  unfold sRetL
  rw [e]
  rfl
/-! ### odd rooms -/
end Law
/-! How a thing may go on. -/
namespace Law
open PySem L2 FL
/-- whether a thing may go on so, as the law reckons -/
def mayB (s o : Spot) : Bool := (if s.1 % 2 = 0 ∧ s.2 ≠ 0 then [s.1, s.1 + s.2] else [s.1]).any fun e => (decide (e % 2 = 0) && decide (o.1 = e)) || (decide (e % 2 = 1) && (decide (o = (e, 0)) || (decide (o = (e + 1, 1)) || decide (o = (e - 1, -1)))))
def waysB (n : Nat) (s : Spot) : List Spot := (spotsOf n).filter (mayB s)
theorem sp1 : spotsOf 1 = [(0, -1), (0, 0), (0, 1), (1, 0), (2, -1), (2, 0), (2, 1)] := by decide +kernel
theorem sp2 : spotsOf 2 = [(0, -1), (0, 0), (0, 1), (1, 0), (2, -1), (2, 0), (2, 1), (3, 0), (4, -1), (4, 0), (4, 1)] := by decide +kernel
theorem sp3 : spotsOf 3 = [(0, -1), (0, 0), (0, 1), (1, 0), (2, -1), (2, 0), (2, 1), (3, 0), (4, -1), (4, 0), (4, 1), (5, 0), (6, -1), (6, 0), (6, 1)] := by decide +kernel
theorem ways_1 (a : Int) {s : Spot} (h : s ∈ spotsOf 1) : F_ways_on [.dat (mkD [a]), .dat (spD s)] = some (.dat (chD (waysB 1 s))) := by
  rw [sp1] at h
  simp only [List.mem_cons] at h
  rcases h with rfl | rfl | rfl | rfl | rfl | rfl | rfl | h <;> first | (cases h; done) | kernel_rfl
theorem ways_2 (a b : Int) {s : Spot} (h : s ∈ spotsOf 2) : F_ways_on [.dat (mkD [a, b]), .dat (spD s)] = some (.dat (chD (waysB 2 s))) := by
  rw [sp2] at h
  simp only [List.mem_cons] at h
  rcases h with rfl | rfl | rfl | rfl | rfl | rfl | rfl | rfl | rfl | rfl | rfl | h <;> first | (cases h; done) | kernel_rfl
theorem ways_3 (a b c : Int) {s : Spot} (h : s ∈ spotsOf 3) : F_ways_on [.dat (mkD [a, b, c]), .dat (spD s)] = some (.dat (chD (waysB 3 s))) := by
  rw [sp3] at h
  simp only [List.mem_cons] at h
  rcases h with rfl | rfl | rfl | rfl | rfl | rfl | rfl | rfl | rfl | rfl | rfl | rfl | rfl | rfl | rfl | h <;> first | (cases h; done) | kernel_rfl
theorem ways_val {ms : List Int} (h1 : 1 ≤ ms.length) (h3 : ms.length ≤ 3) {s : Spot} (h : s ∈ spotsOf ms.length) : F_ways_on [.dat (mkD ms), .dat (spD s)] = some (.dat (chD (waysB ms.length s))) := by
  rcases three_cases h1 h3 with ⟨a, rfl⟩ | ⟨a, b, rfl⟩ | ⟨a, b, c, rfl⟩
  · exact ways_1 a h
  · exact ways_2 a b h
  · exact ways_3 a b c h
theorem spots_up {n : Nat} (h : n ≤ 3) {s : Spot} (hs : s ∈ spotsOf n) : s ∈ spotsOf 3 := by
  have all : ∀ n : Fin 4, ∀ s ∈ spotsOf n, s ∈ spotsOf 3 := by decide +kernel
  exact all ⟨n, by omega⟩ s hs
theorem may_self : ∀ n : Fin 4, ∀ s ∈ spotsOf n, mayB s s = true := by decide +kernel
theorem ways_len {n : Nat} (h : n ≤ 3) (s : Spot) : (waysB n s).length ≤ 15 := Nat.le_trans (List.length_filter_le _ _) (spots_len h).1
/-! ### one of each list, by its parts -/
inductive All2 : List Spot → List (List Spot) → Prop
  | nil : All2 [] []
  | cons {s : Spot} {r : List Spot} {c : List Spot} {cs : List (List Spot)} (h : s ∈ c) (q : All2 r cs) : All2 (s :: r) (c :: cs)
theorem mem_prodC : ∀ {cs : List (List Spot)} {found : List (List Spot)} {x : List Spot}, x ∈ prodC cs found ↔ ∃ q ∈ found, ∃ z, x = q ++ z ∧ All2 z cs
  | [], found, x => by
    constructor
    · intro h
      exact ⟨x, h, [], by simp, .nil⟩
    · rintro ⟨q, hq, z, rfl, hz⟩
      cases hz
      rw [List.append_nil]
      exact hq
  | c :: cs, found, x => by
    show x ∈ prodC cs (growC found c) ↔ _
    rw [mem_prodC]
    constructor
    · rintro ⟨q, hq, z, rfl, hz⟩
      obtain ⟨p, hp, s, hs, rfl⟩ := growC_mem.mp hq
      exact ⟨p, hp, s :: z, by simp, .cons hs hz⟩
    · rintro ⟨q, hq, z, rfl, hz⟩
      cases hz with
      | cons h1 h2 => exact ⟨q ++ [_], growC_mem.mpr ⟨q, hq, _, h1, rfl⟩, _, by simp, h2⟩
theorem prod_in {cs : List (List Spot)} {x : List Spot} (h : x ∈ prodC cs [[]]) : All2 x cs := by
  obtain ⟨q, hq, z, e, hz⟩ := mem_prodC.mp h
  simp at hq
  subst hq
  rw [e, List.nil_append]
  exact hz
theorem in_of_all2 : ∀ {ts : List Thing} {x : List Spot} {cs : List (List Spot)}, All2 x cs → (cs.length = ts.length) → (∀ p ∈ ts.zip cs, ∀ s ∈ p.2, s ∈ spotsOf p.1.2.length) → RoomIn ts x
  | [], _, _, .nil, _, _ => .nil
  | t :: ts, _, _, .nil, h, _ => by cases h
  | [], _, _, .cons _ _, h, _ => by cases h
  | t :: ts, _, _, .cons h q, hl, hc => .cons (hc (t, _) List.mem_cons_self _ h) (in_of_all2 q (by simpa using hl) fun p hp => hc p (List.mem_cons_of_mem _ hp))
theorem all_in {ts : List Thing} {r : List Spot} (h : r ∈ allR ts) : RoomIn ts r := by
  unfold allR at h
  rw [← prodC_go] at h
  refine in_of_all2 (prod_in h) (by rw [List.length_map]) fun p hp s hs => ?_
  have : ∀ ts : List Thing, ∀ p ∈ ts.zip (ts.map fun t => spotsOf t.2.length), p.2 = spotsOf p.1.2.length := fun ts => by
    induction ts with
    | nil => intro p hp; cases hp
    | cons t ts ih =>
      intro p hp
      rw [List.map_cons, List.zip_cons_cons] at hp
      rcases List.mem_cons.mp hp with z | z
      · rw [z]
      · exact ih p z
  rw [this ts p hp] at hs
  exact hs
/-! ### rooms compared -/
theorem eqvAll_spots : ∀ a b : List Spot, PyData.eqvAll (a.map spD) (b.map spD) = decide (a = b)
  | [], [] => by simp [PyData.eqvAll]
  | [], y :: b => by simp [PyData.eqvAll]
  | x :: a, [] => by simp [PyData.eqvAll]
  | x :: a, y :: b => by
    rw [List.map_cons, List.map_cons]
    unfold PyData.eqvAll
    rw [eqv_spot, eqvAll_spots a b]
    by_cases h : x = y <;> by_cases g : a = b <;> simp [h, g]
theorem shaped_room (xs : List Spot) : SeqAt.shaped (rmD xs) = true := by
  unfold SeqAt.shaped rmD PyData.canLay0 PyData.depth
  rw [canLay_spots, Bool.true_and, decide_eq_true]
  have := depth_spots xs
  omega
theorem eq_rooms (a b : List Spot) : eqO (rmD a) (rmD b) = some (decide (a = b)) := by
  have e : eqO (rmD a) (rmD b) = if SeqAt.shaped (rmD a) = true ∧ SeqAt.shaped (rmD b) = true then some (PyData.eqv (rmD a) (rmD b)) else none := rfl
  rw [e, if_pos ⟨shaped_room a, shaped_room b⟩]
  congr 1
  show PyData.eqv (.tuple (a.map spD)) (.tuple (b.map spD)) = _
  unfold PyData.eqv
  exact eqvAll_spots a b
theorem ne_rooms (a b : List Spot) : neD (.dat (rmD a)) (.dat (rmD b)) = some (.dat (.bool (!decide (a = b)))) := by
  unfold neD
  simp only [eq_rooms]
theorem depth_room (r : List Spot) : PyData.depth (rmD r) ≤ 2 := by
  unfold rmD PyData.depth
  have := depth_spots r
  omega
theorem canLay_rooms : ∀ xs : List (List Spot), PyData.canLayAll0 (xs.map rmD) = true
  | [] => rfl
  | x :: xs => by
    rw [List.map_cons]
    unfold PyData.canLayAll0
    rw [canLay_rooms xs]
    unfold rmD PyData.canLay0
    rw [canLay_spots]
    rfl
theorem depth_rooms : ∀ xs : List (List Spot), PyData.depthAll (xs.map rmD) ≤ 2
  | [] => by simp [PyData.depthAll]
  | x :: xs => by
    have := depth_rooms xs
    have h := depth_room x
    rw [List.map_cons]
    unfold PyData.depthAll
    omega
theorem shaped_rooms (xs : List (List Spot)) : SeqAt.shaped (.list (xs.map rmD)) = true := by
  unfold SeqAt.shaped PyData.canLay0 PyData.depth
  rw [canLay_rooms, Bool.true_and, decide_eq_true]
  have := depth_rooms xs
  omega
theorem ne_nilr (xs : List (List Spot)) : neD (.dat (.list (xs.map rmD))) (.dat (.list [])) = some (.dat (.bool (!xs.isEmpty))) := by
  have e : eqO (.list (xs.map rmD)) (.list []) = if SeqAt.shaped (.list (xs.map rmD)) = true ∧ SeqAt.shaped (.list []) = true then some (PyData.eqv (.list (xs.map rmD)) (.list [])) else none := rfl
  unfold neD
  rw [if_pos ⟨shaped_rooms xs, shaped_rooms []⟩] at e
  simp only [e]
  cases xs <;> simp [PyData.eqv, PyData.eqvAll]
end Law
/-! What comes next: the program's, the law's. -/
namespace Law
open PySem L2 FL
theorem and_eq {a b : Mx Bool} {ss : List Sl} {rw : Ro} {x y : Bool} (h1 : a ss rw = some (x, rw)) (h2 : b ss rw = some (y, rw)) : mAnd a b ss rw = some (x && y, rw) := by
  unfold mAnd bnd
  rw [h1]
  cases x
  · rfl
  · exact h2
theorem zp_map : ∀ (ts : List Thing) (r : List Spot), zpD (ts.map thD) (r.map spD) = (ts.zip r).map fun p => .tuple [thD p.1, spD p.2]
  | [], [] => rfl
  | [], _ :: _ => rfl
  | _ :: _, [] => rfl
  | t :: ts, s :: r => by
    rw [List.map_cons, List.map_cons, List.zip_cons_cons, List.map_cons, ← zp_map ts r]
    rfl
theorem zip_in {ts : List Thing} {r : List Spot} (h : RoomIn ts r) : ∀ p ∈ ts.zip r, p.2 ∈ spotsOf p.1.2.length ∧ p.1 ∈ ts := by
  induction h with
  | nil => intro p hp; cases hp
  | cons h _ ih =>
    intro p hp
    rw [List.zip_cons_cons] at hp
    rcases List.mem_cons.mp hp with z | z
    · rw [z]; exact ⟨h, List.mem_cons_self⟩
    · exact ⟨(ih p z).1, List.mem_cons_of_mem _ (ih p z).2⟩
def waysL (ts : List Thing) (r : List Spot) : List (List Spot) := (ts.zip r).map fun p => waysB p.1.2.length p.2
def nextP (ties : List Tie) (r o : List Spot) : Bool := !decide (o = r) && (firstB o ties 0).isNone
def nextsB (ts : List Thing) (ties : List Tie) (r : List Spot) : List (List Spot) := (prodC (waysL ts r) [[]]).filter (nextP ties r)
theorem all2_in {ts : List Thing} {r : List Spot} (h : RoomIn ts r) : ∀ o, All2 o (waysL ts r) → RoomIn ts o := by
  induction h with
  | nil => intro o ho; cases ho; exact .nil
  | cons h _ ih =>
    intro o ho
    cases ho with
    | cons h1 h2 => exact .cons (List.mem_filter.mp h1).1 (ih _ h2)
theorem ways_in {ts : List Thing} {r o : List Spot} (h : RoomIn ts r) (ho : o ∈ prodC (waysL ts r) [[]]) : RoomIn ts o := all2_in h o (prod_in ho)
theorem next_in {ts : List Thing} {ties : List Tie} {r o : List Spot} (h : RoomIn ts r) (ho : o ∈ nextsB ts ties r) : RoomIn ts o := ways_in h (List.mem_filter.mp ho).1
theorem waysL_len {ts : List Thing} {r : List Spot} (h : RoomIn ts r) : (waysL ts r).length = ts.length := by
  unfold waysL
  rw [List.length_map, List.length_zip, h.ok.1, Nat.min_self]
theorem waysL_15 {ts : List Thing} {r : List Spot} (hm : Marked ts) (h : RoomIn ts r) : ∀ c ∈ waysL ts r, c.length ≤ 15 := fun c hc => by
  obtain ⟨p, hp, rfl⟩ := List.mem_map.mp hc
  exact ways_len (hm _ (zip_in h p hp).2).2 _
theorem prodC_len : ∀ (cs : List (List Spot)) (found : List (List Spot)), (∀ c ∈ cs, c.length ≤ 15) → (prodC cs found).length ≤ found.length * 15 ^ cs.length
  | [], found, _ => by simp [prodC]
  | c :: cs, found, h => by
    have ih := prodC_len cs (growC found c) fun q hq => h q (List.mem_cons_of_mem _ hq)
    have g := growC_len (found := found) (h c List.mem_cons_self)
    have : (growC found c).length * 15 ^ cs.length ≤ found.length * 15 * 15 ^ cs.length := Nat.mul_le_mul_right _ g
    rw [List.length_cons, Nat.pow_succ, Nat.mul_comm (15 ^ cs.length) 15, ← Nat.mul_assoc]
    exact Nat.le_trans ih this
theorem prod_few {ts : List Thing} {r : List Spot} (hm : Marked ts) (hl : ts.length ≤ 3) (h : RoomIn ts r) : (prodC (waysL ts r) [[]]).length ≤ 3375 := by
  have g := prodC_len (waysL ts r) [[]] (waysL_15 hm h)
  rw [waysL_len h] at g
  have p : (15 : Nat) ^ ts.length ≤ 15 ^ 3 := Nat.pow_le_pow_right (by decide) hl
  have : (prodC (waysL ts r) [[]]).length ≤ 1 * 15 ^ ts.length := g
  omega
/-! ### the program's -/
abbrev S8 (ts : List Thing) (ties : List Tie) (r : List Spot) (a b : Sl) : List Sl := [.vl (hsD ts ties), .vl (.dat (rmD r)), a, b, .no, .no, .no, .no]
theorem ways_lc {ts : List Thing} {ties : List Tie} {r : List Spot} (hm : Marked ts) (hl : ts.length ≤ 3) (h : RoomIn ts r) : mLc [4, 5, 6] (mZ3 (mList (mHse F_House_things (mVar 0))) (mVar 1)) (gTp 2 (gsCons (gTp 2 (gsCons (gNm 4) (gsCons (gNm 5) gsNil))) (gsCons (gNm 6) gsNil))) mYes (mCall F_ways_on (mCons (mVar 5) (mCons (mVar 6) mNil))) (S8 ts ties r .no .no) (0, 0) = some ((waysL ts r).map chD, (0, 0)) := by
  have go := lcGo_map (g := gTp 2 (gsCons (gTp 2 (gsCons (gNm 4) (gsCons (gNm 5) gsNil))) (gsCons (gNm 6) gsNil))) (tt := mYes) (te := mCall F_ways_on (mCons (mVar 5) (mCons (mVar 6) mNil))) (ss := S8 ts ties r .no .no) (rw := (0, 0)) (fun p : Thing × Spot => .tuple [thD p.1, spD p.2]) (fun p => chD (waysB p.1.2.length p.2)) (fun _ => true) (ts.zip r) fun p hp => by
    obtain ⟨hs, ht⟩ := zip_in h p hp
    obtain ⟨h1, h3⟩ := hm _ ht
    exact ⟨[.vl (hsD ts ties), .vl (.dat (rmD r)), .no, .no, .vl (.dat (.str p.1.1)), .vl (.dat (mkD p.1.2)), .vl (.dat (spD p.2)), .no], rfl, rfl, fun _ => call_eq rfl (ways_val h1 h3 hs)⟩
  rw [List.filter_eq_self.mpr (fun _ _ => rfl)] at go
  have e : (ts.zip r).map (fun p => chD (waysB p.1.2.length p.2)) = (waysL ts r).map chD := by
    unfold waysL
    rw [List.map_map]
    rfl
  rw [e, ← zp_map] at go
  refine (lc_eq (xs := zpD (ts.map thD) (r.map spD)) (rw1 := (0, 0)) rfl rfl ?_).trans go
  rw [zp_map, List.length_map, List.length_zip]
  omega
theorem next_lc {ts : List Thing} {ties : List Tie} {r : List Spot} (hm : Marked ts) (hl : ts.length ≤ 3) (ht : ∀ t ∈ ties, TieOk ts t) (h : RoomIn ts r) : mLc [7] (mSeq (mCall F_one_of_each (mCons (mVar 2) mNil))) (gNm 7) (mAnd (mTst (m2 neD (mVar 7) (mVar 1))) (mTst (m2 isND (mCall F_first_broken (mCons (mVar 3) (mCons (mVar 7) mNil))) (mC .none)))) (mVar 7) (S8 ts ties r (.vl (.dat (.list ((waysL ts r).map chD)))) (.vl (.dat (tisD ties)))) (0, 0) = some ((nextsB ts ties r).map rmD, (0, 0)) := by
  have ov := one_val (cs := waysL ts r) (waysL_15 hm h) (by rw [waysL_len h]; exact hl)
  have go := lcGo_map (g := gNm 7) (tt := mAnd (mTst (m2 neD (mVar 7) (mVar 1))) (mTst (m2 isND (mCall F_first_broken (mCons (mVar 3) (mCons (mVar 7) mNil))) (mC .none)))) (te := mVar 7) (ss := S8 ts ties r (.vl (.dat (.list ((waysL ts r).map chD)))) (.vl (.dat (tisD ties)))) (rw := (0, 0)) rmD rmD (nextP ties r) (prodC (waysL ts r) [[]]) fun o ho => by
    have fv := first_val (ways_in h ho).ok ht
    refine ⟨[.vl (hsD ts ties), .vl (.dat (rmD r)), .vl (.dat (.list ((waysL ts r).map chD))), .vl (.dat (tisD ties)), .no, .no, .no, .vl (.dat (rmD o))], rfl, ?_, fun _ => rfl⟩
    refine and_eq (tst_eq (m2_eq (g := neD) (m := mVar 7) (n := mVar 1) rfl rfl (ne_rooms o r))) ?_
    cases q : firstB o ties 0 with
    | none =>
      rw [q] at fv
      exact tst_eq (m2_eq (call_eq rfl fv) rfl rfl)
    | some i =>
      rw [q] at fv
      exact tst_eq (m2_eq (call_eq rfl fv) rfl rfl)
  have pf := prod_few hm hl h
  have src : mSeq (mCall F_one_of_each (mCons (mVar 2) mNil)) (S8 ts ties r (.vl (.dat (.list ((waysL ts r).map chD)))) (.vl (.dat (tisD ties)))) (0, 0) = some ((prodC (waysL ts r) [[]]).map rmD, (0, 0)) := seq_eq (call_eq rfl ov) rfl
  exact (lc_eq rfl src (by rw [List.length_map]; omega)).trans go
theorem nexts_val {ts : List Thing} {ties : List Tie} {r : List Spot} (hm : Marked ts) (hl : ts.length ≤ 3) (ht : ∀ t ∈ ties, TieOk ts t) (h : RoomIn ts r) : F_nexts [hsD ts ties, .dat (rmD r)] = some ((nextsB ts ties r).map rmD) := by
  have cg := check_good (ties := ties) hm h
  have st1 := dropX_ok (ss := S8 ts ties r .no .no) (rw := (0, 0)) (callX_eq (ma := mCons (mVar 0) (mCons (mVar 1) mNil)) rfl cg)
  have st2 := set_eq (i := 2) (ss := S8 ts ties r .no .no) (rw := (0, 0)) (list_eq (ways_lc (ties := ties) hm hl h)) (by simp)
  refine bodyL_rl (rw := (0, 0)) rfl ((seq_nx st1).trans ((seq_nx st2).trans ((seq_nx (ss1 := S8 ts ties r (.vl (.dat (.list ((waysL ts r).map chD)))) (.vl (.dat (tisD ties)))) (rw1 := (0, 0)) rfl).trans ?_)))
  exact retL_eq (next_lc hm hl ht h)
end Law
/-! Drawn rooms; why another one can't come next. -/
namespace Law
open PySem L2 FL
theorem and_true {a b : Mx Bool} {ss : List Sl} {rw rw1 : Ro} {x : Option (Bool × Ro)} (h1 : a ss rw = some (true, rw1)) (h2 : b ss rw1 = x) : mAnd a b ss rw = x := by
  unfold mAnd bnd
  rw [h1]
  exact h2
theorem and_false {a b : Mx Bool} {ss : List Sl} {rw rw1 : Ro} (h1 : a ss rw = some (false, rw1)) : mAnd a b ss rw = some (false, rw1) := by
  unfold mAnd bnd
  rw [h1]
  rfl
theorem len_rooms (rs : List (List Spot)) : lenD (.dat (.list (rs.map rmD))) = some (.dat (.int (rs.length : Nat))) := by
  unfold lenD
  simp only [List.length_map]
/-- one of a list of rooms, drawn -/
theorem pick_room (ns : List Int) {rs : List (List Spot)} (hne : rs ≠ []) {i : Nat} {ss : List Sl} {rw : Ro} (h0 : ss[0]? = some .row) (h : 0 ≤ rw.1) (hi : mVar i ss = fun rw => some (.dat (.list (rs.map rmD)), rw)) :
    ∃ r rw', m2 ixD (mVar i) (mCallR 0 (F__law_taken ns) (mCons (m1 lenD (mVar i)) mNil)) ss rw = some (.dat (rmD r), rw') ∧ r ∈ rs ∧ 0 ≤ rw'.1 := by
  have hpos : 0 < rs.length := List.length_pos_iff.mpr hne
  obtain ⟨v, rw1, e1, v0, v1, r1⟩ := draw (ns := ns) (i := 0) (ma := mCons (m1 lenD (mVar i)) mNil) (ss := ss) (rw := rw) (m := (rs.length : Nat)) h0 (cons_eq (m1_eq (g := lenD) (m := mVar i) (by rw [hi]) (len_rooms rs)) nil_eq) (by omega) h
  obtain ⟨j, rfl⟩ : ∃ j : Nat, v = (j : Int) := ⟨v.toNat, by omega⟩
  obtain ⟨r, hr⟩ : ∃ r, rs[j]? = some r := ⟨_, List.getElem?_eq_getElem (by omega)⟩
  have ax := atI_mapD rmD hr
  exact ⟨r, rw1, m2_eq (g := ixD) (m := mVar i) (by rw [hi]) e1 (by unfold ixD; simp only [ax]), List.mem_of_getElem? hr, r1⟩
theorem gt0 (u : Int) : gtD (.dat (.int u)) (.dat (.int 0)) = some (.dat (.bool (decide (0 < u)))) := rfl
theorem room_val (ns : List Int) {ts : List Thing} {ties : List Tie} (hm : Marked ts) (hl : ts.length ≤ 3) (ht : ∀ t ∈ ties, TieOk ts t) (h6 : ties.length ≤ 1000) {rw : Ro} (h : 0 ≤ rw.1) : ∃ r rw', F__law_room ns [.dat (thsD ts), .dat (tisD ties)] rw = some (.dat (rmD r), rw') ∧ RoomIn ts r ∧ 0 ≤ rw'.1 := by
  have al := all_len hm hl
  have lr := lrooms_val hm hl ht (by omega) h6
  have st1 := set_eq (i := 3) (ss := [.row, .vl (.dat (thsD ts)), .vl (.dat (tisD ties)), .no]) (rw := rw) (call_eq (ma := mCons (mVar 1) (mCons (mVar 2) mNil)) rfl lr) (by simp)
  let S : List Sl := [.row, .vl (.dat (thsD ts)), .vl (.dat (tisD ties)), .vl (.dat (.list ((roomsOf ts ties).map rmD)))]
  have t0 : mTst (m2 neD (mVar 3) (mList (mLst mNil))) S rw = some (!(roomsOf ts ties).isEmpty, rw) := tst_eq (m2_eq (g := neD) (m := mVar 3) (n := mList (mLst mNil)) rfl rfl (ne_nilr _))
  have any : ∀ rw : Ro, 0 ≤ rw.1 → ∃ r rw', sRet (mCallR 0 (F__law_any ns) (mCons (mVar 1) mNil)) S rw = some (.rt (.dat (rmD r)) rw') ∧ RoomIn ts r ∧ 0 ≤ rw'.1 := fun rw h => by
    obtain ⟨r, rw1, e1, hr, r1⟩ := any_val ns hm hl h
    exact ⟨r, rw1, ret_eq (callR_eq (i := 0) rfl (cons_eq (m := mVar 1) rfl nil_eq) e1), hr, r1⟩
  cases he : (roomsOf ts ties).isEmpty with
  | true =>
    rw [he] at t0
    obtain ⟨r, rw1, e, hr, r1⟩ := any rw h
    exact ⟨r, rw1, bodyR_rt rfl ((seq_nx st1).trans ((seq_nx ((ifF (and_false t0)).trans rfl)).trans e)), hr, r1⟩
  | false =>
    rw [he] at t0
    obtain ⟨u, rw2, e2, u0, u1, r2⟩ := draw (ns := ns) (i := 0) (ma := mCons (mC (.int 4)) mNil) (ss := S) (rw := rw) rfl rfl (by decide) h
    have t1 : mTst (m2 gtD (mCallR 0 (F__law_taken ns) (mCons (mC (.int 4)) mNil)) (mC (.int 0))) S rw = some (decide (0 < u), rw2) := tst_eq (m2_eq (g := gtD) (n := mC (.int 0)) e2 rfl (gt0 u))
    by_cases hu : 0 < u
    · rw [decide_eq_true hu] at t1
      obtain ⟨r, rw3, e3, hr, r3⟩ := pick_room ns (rs := roomsOf ts ties) (fun z => by rw [z] at he; cases he) (i := 3) (ss := S) (rw := rw2) rfl r2 rfl
      exact ⟨r, rw3, bodyR_rt rfl ((seq_nx st1).trans (seq_rt ((ifT (and_true t0 t1)).trans (ret_eq e3)))), all_in (List.mem_filter.mp hr).1, r3⟩
    · rw [decide_eq_false hu] at t1
      obtain ⟨r, rw1, e, hr, r1⟩ := any rw2 r2
      exact ⟨r, rw1, bodyR_rt rfl ((seq_nx st1).trans ((seq_nx ((ifF (and_true t0 t1)).trans rfl)).trans e)), hr, r1⟩
/-! ### another room, drawn -/
theorem in_all {ts : List Thing} {r : List Spot} (h : RoomIn ts r) : r ∈ allR ts := by
  unfold allR
  rw [← prodC_go]
  refine mem_prodC.mpr ⟨[], List.mem_singleton.mpr rfl, r, rfl, ?_⟩
  induction h with
  | nil => exact .nil
  | cons h _ ih => exact .cons h ih
theorem lst_eq {ma : Mx (List Vl)} {ss : List Sl} {rw rw1 : Ro} {xs : List Vl} {ds : List PyData} (h : ma ss rw = some (xs, rw1)) (h2 : dats xs = some ds) (h3 : ds.length ≤ 100000) : mLst ma ss rw = some (ds, rw1) := by
  unfold mLst bnd
  rw [h]
  simp only [opt, h2]
  rw [if_pos h3]
theorem cut_take {α : Type} {xs : List α} {k : Nat} (h : k ≤ xs.length) : cutD xs none (some (k : Int)) = xs.take k := by
  unfold cutD
  rw [HT.sIx_none, HT.sIx_nat, Nat.min_eq_left h]
  simp
theorem cut_drop {α : Type} {xs : List α} {k : Nat} (h : k ≤ xs.length) : cutD xs (some (k : Int)) none = xs.drop k := by
  unfold cutD
  rw [HT.sIx_none, HT.sIx_nat, Nat.min_eq_left h]
  rw [List.take_of_length_le (by simp)]
theorem andV_gen {a b : Mx Vl} {ss : List Sl} {rw : Ro} {k1 k2 : Bool} (h1 : a ss rw = some (.dat (.bool k1), rw)) (h2 : k1 = true → b ss rw = some (.dat (.bool k2), rw)) : mAndV a b ss rw = some (.dat (.bool (k1 && k2)), rw) := by
  unfold mAndV bnd
  rw [tst_eq h1]
  cases k1
  · rfl
  · exact h2 rfl
end Law
/-! What may come of a room: the walk over rooms. -/
namespace Law
open PySem L2 FL
def nkR (r : List Spot) : NestedKey := .tup (r.map fun s => .tup [.num s.1, .num s.2])
theorem nkAll_spots : ∀ r : List Spot, nkAll (r.map spD) = some (r.map fun s => NestedKey.tup [.num s.1, .num s.2])
  | [] => rfl
  | s :: r => by
    have h1 : nkOf (spD s) = some (.tup [.num s.1, .num s.2]) := rfl
    rw [List.map_cons]
    unfold nkAll
    rw [h1, nkAll_spots r]
    rfl
theorem nkOf_room (r : List Spot) : nkOf (rmD r) = some (nkR r) := by
  unfold rmD nkOf
  rw [nkAll_spots]
  rfl
theorem nkAll_rooms : ∀ rs : List (List Spot), nkAll (rs.map rmD) = some (rs.map nkR)
  | [] => rfl
  | r :: rs => by
    rw [List.map_cons]
    unfold nkAll
    rw [nkOf_room, nkAll_rooms rs]
    rfl
theorem nk_room (r : List Spot) : (nkR r).data = rmD r := nk_data _ _ (nkOf_room r)
theorem rmD_inj {a b : List Spot} (h : rmD a = rmD b) : a = b := by
  have := eq_rooms a b
  rw [h] at this
  have e := eq_rooms b b
  rw [this] at e
  simpa using e
theorem nkR_inj {a b : List Spot} (h : nkR a = nkR b) : a = b := rmD_inj (by rw [← nk_room, ← nk_room, h])
theorem mem_nkR {a : List Spot} {l : List (List Spot)} : nkR a ∈ l.map nkR ↔ a ∈ l := ⟨fun h => by
  obtain ⟨b, hb, e⟩ := List.mem_map.mp h
  rw [← nkR_inj e]
  exact hb, fun h => List.mem_map.mpr ⟨a, h, rfl⟩⟩
theorem depth_nums : ∀ r : List Spot, NestedKey.depthAll (r.map fun s => NestedKey.tup [.num s.1, .num s.2]) ≤ 1
  | [] => by simp [NestedKey.depthAll]
  | s :: r => by
    have := depth_nums r
    rw [List.map_cons]
    simp only [NestedKey.depthAll, NestedKey.depth]
    omega
theorem depth_nkR (r : List Spot) : (nkR r).depth ≤ 8 := by
  have := depth_nums r
  unfold nkR
  simp only [NestedKey.depth]
  omega
/-- the walk's end: what is found -/
structure WEnd (ts : List Thing) (ties : List Tie) (ws fs fs' : List (List Spot)) : Prop where
  rin : ∀ o ∈ fs', RoomIn ts o
  nd : fs'.Nodup
  sub : ∀ o ∈ fs, o ∈ fs'
  wai : ∀ o ∈ ws, o ∈ fs'
  clo : ∀ o ∈ fs', o ∈ fs ∨ ∀ p ∈ nextsB ts ties o, p ∈ fs'
  ind : ∀ P : List Spot → Prop, (∀ o ∈ ws, P o) → (∀ o ∈ fs, P o) → (∀ o, RoomIn ts o → P o → ∀ p ∈ nextsB ts ties o, P p) → ∀ o ∈ fs', P o
section
variable {ts : List Thing} {ties : List Tie}
theorem nodup_le {l m : List (List Spot)} (h : l.Nodup) (hs : ∀ x ∈ l, x ∈ m) : l.length ≤ m.length := by
  induction l generalizing m with
  | nil => simp
  | cons a l ih =>
    rw [List.nodup_cons] at h
    have ha := hs a List.mem_cons_self
    have := ih (m := m.erase a) h.2 fun x hx => by
      have hne : x ≠ a := fun e => h.1 (e ▸ hx)
      exact (List.mem_erase_of_ne hne).mpr (hs x (List.mem_cons_of_mem _ hx))
    have hl := List.length_erase_of_mem ha
    have hp := List.length_pos_of_mem ha
    rw [List.length_cons]
    omega
theorem nexts_nx (hm : Marked ts) (hl : ts.length ≤ 3) (ht : ∀ t ∈ ties, TieOk ts t) {o : List Spot} (h : RoomIn ts o) : nxF F_nexts (hsD ts ties) (nkR o) = some ((nextsB ts ties o).map nkR) := by
  unfold nxF
  rw [nk_room, nexts_val hm hl ht h]
  exact nkAll_rooms _
theorem walk_res (hm : Marked ts) (hl : ts.length ≤ 3) (ht : ∀ t ∈ ties, TieOk ts t) : ∀ (n : Nat) (ws fs : List (List Spot)), (∀ o ∈ ws, RoomIn ts o) → (∀ o ∈ fs, RoomIn ts o) → fs.Nodup → ws.length + (3375 - fs.length) * 3375 < n → ws.length + (3375 - fs.length) * 3375 ≤ 15000000 →
    ∃ fs', walkG (nxF F_nexts (hsD ts ties)) n (ws.map nkR) (fs.map nkR) = some (fs'.map nkR) ∧ WEnd ts ties ws fs fs' := by
  intro n
  induction n with
  | zero => intro ws fs _ _ _ h; omega
  | succ n ih =>
    intro ws fs hw hf hn hlt hb
    have fl : fs.length ≤ 3375 := Nat.le_trans (nodup_le hn fun x hx => in_all (hf x hx)) (all_len hm hl)
    unfold walkG
    cases hg : ws.getLast? with
    | none =>
      have : ws = [] := by simpa using hg
      subst this
      exact ⟨fs, rfl, hf, hn, fun o h => h, fun _ h => absurd h List.not_mem_nil, fun o h => .inl h, fun P _ h _ => h⟩
    | some k =>
      have hne : ws ≠ [] := fun z => by rw [z] at hg; cases hg
      have ews : ws = ws.dropLast ++ [k] := by
        have := List.dropLast_concat_getLast hne
        rw [List.getLast?_eq_some_getLast hne] at hg
        cases hg
        exact this.symm
      have hk : RoomIn ts k := hw k (by rw [ews]; simp)
      have e1 : (ws.map nkR).getLast? = some (nkR k) := by rw [List.getLast?_map, hg]; rfl
      have e2 : (ws.map nkR).dropLast = ws.dropLast.map nkR := by rw [List.map_dropLast]
      have wl : ws.dropLast.length + 1 = ws.length := by
        have := congrArg List.length ews
        rw [List.length_append, List.length_cons, List.length_nil] at this
        omega
      have hwd : ∀ o ∈ ws.dropLast, RoomIn ts o := fun o ho => hw o (by rw [ews]; exact List.mem_append_left _ ho)
      rw [e1]
      simp only []
      rw [if_pos ⟨rfl, depth_nkR k⟩]
      by_cases hin : k ∈ fs
      · rw [if_pos (mem_nkR.mpr hin), e2]
        obtain ⟨fs', r, E⟩ := ih ws.dropLast fs hwd hf hn (by omega) (by omega)
        refine ⟨fs', r, E.rin, E.nd, E.sub, fun o ho => ?_, E.clo, fun P h1 h2 h3 => E.ind P (fun o ho => h1 o (by rw [ews]; exact List.mem_append_left _ ho)) h2 h3⟩
        rw [ews] at ho
        rcases List.mem_append.mp ho with ho | ho
        · exact E.wai o ho
        · have := List.mem_singleton.mp ho
          subst this
          exact E.sub o hin
      · rw [if_neg fun z => hin (mem_nkR.mp z), nexts_nx hm hl ht hk]
        simp only []
        have nl : (nextsB ts ties k).length ≤ 3375 := Nat.le_trans (List.length_filter_le _ _) (prod_few hm hl hk)
        have hn' : (fs ++ [k]).Nodup := List.nodup_append.mpr ⟨hn, by simp, fun a ha b hb e => by
          have := List.mem_singleton.mp hb
          exact hin (by rw [← this, ← e]; exact ha)⟩
        have hf' : ∀ o ∈ fs ++ [k], RoomIn ts o := fun o ho => by
          rcases List.mem_append.mp ho with ho | ho
          · exact hf o ho
          · rw [List.mem_singleton.mp ho]; exact hk
        have fl' : (fs ++ [k]).length ≤ 3375 := Nat.le_trans (nodup_le hn' fun x hx => in_all (hf' x hx)) (all_len hm hl)
        rw [List.length_append, List.length_cons, List.length_nil] at fl'
        have em : (3375 - fs.length) * 3375 = (3375 - (fs.length + 1)) * 3375 + 3375 := by
          have : 3375 - fs.length = (3375 - (fs.length + 1)) + 1 := by omega
          rw [this, Nat.succ_mul]
        rw [if_pos ⟨by rw [List.length_map, List.length_map]; omega, by rw [List.length_map]; omega⟩, e2, ← List.map_append]
        have e3 : fs.map nkR ++ [nkR k] = (fs ++ [k]).map nkR := by rw [List.map_append]; rfl
        rw [e3]
        obtain ⟨fs', r, E⟩ := ih (ws.dropLast ++ nextsB ts ties k) (fs ++ [k]) (fun o ho => by
          rcases List.mem_append.mp ho with ho | ho
          · exact hwd o ho
          · exact next_in hk ho) hf' hn' (by rw [List.length_append, List.length_append, List.length_cons, List.length_nil]; omega) (by rw [List.length_append, List.length_append, List.length_cons, List.length_nil]; omega)
        refine ⟨fs', r, E.rin, E.nd, fun o ho => E.sub o (List.mem_append_left _ ho), fun o ho => ?_, fun o ho => ?_, fun P h1 h2 h3 => E.ind P (fun o ho => ?_) (fun o ho => ?_) h3⟩
        · rw [ews] at ho
          rcases List.mem_append.mp ho with ho | ho
          · exact E.wai o (List.mem_append_left _ ho)
          · exact E.sub o (List.mem_append_right _ ho)
        · rcases E.clo o ho with h | h
          · rcases List.mem_append.mp h with h | h
            · exact .inl h
            · rw [List.mem_singleton.mp h]
              exact .inr fun p hp => E.wai p (List.mem_append_right _ hp)
          · exact .inr h
        · rcases List.mem_append.mp ho with ho | ho
          · exact h1 o (by rw [ews]; exact List.mem_append_left _ ho)
          · exact h3 k hk (h1 k (by rw [ews]; simp)) o ho
        · rcases List.mem_append.mp ho with ho | ho
          · exact h2 o ho
          · rw [List.mem_singleton.mp ho]
            exact h1 k (by rw [ews]; simp)
/-- what may come of a room -/
structure Reach (ts : List Thing) (ties : List Tie) (r : List Spot) (l : List (List Spot)) : Prop where
  rin : ∀ o ∈ l, RoomIn ts o
  me : r ∈ l
  clo : ∀ o ∈ l, ∀ p ∈ nextsB ts ties o, p ∈ l
  ind : ∀ P : List Spot → Prop, P r → (∀ o, RoomIn ts o → P o → ∀ p ∈ nextsB ts ties o, P p) → ∀ o ∈ l, P o
  few : l.length ≤ 3375
theorem alike_spots : ∀ a b : List Spot, PySem.W.alikeAll (a.map spD) (b.map spD) = true
  | [], _ => by simp [PySem.W.alikeAll]
  | _ :: _, [] => by simp [PySem.W.alikeAll]
  | x :: a, y :: b => by
    rw [List.map_cons, List.map_cons]
    unfold PySem.W.alikeAll
    rw [alike_spots a b]
    simp [spD, PySem.W.alike, PySem.W.alikeAll]
theorem rooms_of {D : List PyData} {Q : List Spot → Prop} (h : ∀ d ∈ D, ∃ o, Q o ∧ d = rmD o) : ∃ l : List (List Spot), D = l.map rmD ∧ ∀ o ∈ l, Q o := by
  induction D with
  | nil => exact ⟨[], rfl, fun _ h => absurd h List.not_mem_nil⟩
  | cons d D ih =>
    obtain ⟨o, ho, rfl⟩ := h d List.mem_cons_self
    obtain ⟨l, rfl, hl⟩ := ih fun x hx => h x (List.mem_cons_of_mem _ hx)
    exact ⟨o :: l, rfl, fun p hp => by
      rcases List.mem_cons.mp hp with rfl | hp
      · exact ho
      · exact hl p hp⟩
theorem reach_val (hm : Marked ts) (h1 : 1 ≤ ts.length) (hl : ts.length ≤ 3) (ht : ∀ t ∈ ties, TieOk ts t) {r : List Spot} (h : RoomIn ts r) : ∃ l, F_reach [hsD ts ties, .dat (rmD r)] = some (l.map rmD) ∧ Reach ts ties r l := by
  obtain ⟨fs, hw, E⟩ := walk_res hm hl ht 16000000 [r] [] (fun o ho => by rw [List.mem_singleton.mp ho]; exact h) (fun _ h => absurd h List.not_mem_nil) List.nodup_nil (by simp) (by simp)
  have hw : walkG (nxF F_nexts (hsD ts ties)) 16000000 [nkR r] [] = some (fs.map nkR) := hw
  have ok : okSrt (fs.map nkR) = true := by
    unfold okSrt
    rw [List.all_eq_true]
    intro a ha
    obtain ⟨o, ho, rfl⟩ := List.mem_map.mp ha
    simp only [Bool.and_eq_true, decide_eq_true_eq, List.all_eq_true]
    refine ⟨fun b hb => ?_, ?_, ?_⟩
    · obtain ⟨p, hp, rfl⟩ := List.mem_map.mp hb
      rw [nk_room, nk_room]
      unfold rmD PySem.W.alike
      exact alike_spots o p
    · rw [nk_room]
      exact Nat.le_trans (depth_room o) (by decide)
    · have := (E.rin o ho).ok.1
      cases o with
      | nil => simp at this; omega
      | cons s o => rfl
  have cg := check_good (ties := ties) hm h
  have st1 := dropX_ok (ss := [.vl (hsD ts ties), .vl (.dat (rmD r))]) (rw := (0, 0)) (callX_eq (ma := mCons (mVar 0) (mCons (mVar 1) mNil)) rfl cg)
  have sv : mSrtW F_nexts 16000000 (mVar 0) (mVar 1) [.vl (hsD ts ties), .vl (.dat (rmD r))] (0, 0) = some (srtK (fs.map nkR), (0, 0)) := by
    show (opt (match (Vl.dat (rmD r)) with
      | .dat d => match nkOf d with
        | some k => match walkG (nxF F_nexts (hsD ts ties)) 16000000 [k] [] with
          | some ks => if okSrt ks = true then some (srtK ks) else none
          | none => none
        | none => none
      | _ => none) : Mx (List PyData)) [.vl (hsD ts ties), .vl (.dat (rmD r))] (0, 0) = _
    simp only [nkOf_room, hw]
    rw [if_pos ok]
    rfl
  have hp := List.mergeSort_perm (fs.map nkR) (PySem.W.dataLe false NestedKey.data)
  obtain ⟨l, el, hq⟩ := rooms_of (D := srtK (fs.map nkR)) (Q := fun o => o ∈ fs) fun d hd => by
    obtain ⟨k, hk, rfl⟩ := List.mem_map.mp hd
    obtain ⟨o, ho, rfl⟩ := List.mem_map.mp (hp.mem_iff.mp hk)
    exact ⟨o, ho, nk_room o⟩
  have hall : ∀ o ∈ fs, o ∈ l := fun o ho => by
    have : rmD o ∈ srtK (fs.map nkR) := List.mem_map.mpr ⟨nkR o, hp.mem_iff.mpr (List.mem_map.mpr ⟨o, ho, rfl⟩), nk_room o⟩
    rw [el] at this
    obtain ⟨p, hp2, e⟩ := List.mem_map.mp this
    rw [← rmD_inj e]
    exact hp2
  have ll : l.length = fs.length := by
    have := congrArg List.length el
    unfold srtK at this
    rw [List.length_map, List.length_map, hp.length_eq, List.length_map] at this
    exact this.symm
  refine ⟨l, ?_, fun o ho => E.rin o (hq o ho), hall r (E.wai r (by simp)), fun o ho p hp => ?_, fun P a b o ho => ?_, ?_⟩
  · rw [← el]
    exact bodyL_rl (rw := (0, 0)) rfl ((seq_nx st1).trans (retL_eq sv))
  · rcases E.clo o (hq o ho) with h | h
    · exact absurd h List.not_mem_nil
    · exact hall p (h p hp)
  · exact E.ind P (fun o ho => by rw [List.mem_singleton.mp ho]; exact a) (fun _ h => absurd h List.not_mem_nil) b o (hq o ho)
  · rw [ll]
    exact Nat.le_trans (nodup_le E.nd fun x hx => in_all (E.rin x hx)) (all_len hm hl)
end
end Law
/-! k07: a tie more, in any order. -/
namespace Law
open PySem L2 FL
theorem cut_takeA {α : Type} (xs : List α) (k : Nat) : cutD xs none (some (k : Int)) = xs.take k := by
  unfold cutD
  rw [HT.sIx_none, HT.sIx_nat, List.drop_zero, Nat.sub_zero]
  by_cases h : k ≤ xs.length
  · rw [Nat.min_eq_left h]
  · rw [Nat.min_eq_right (by omega), List.take_of_length_le (Nat.le_refl _), List.take_of_length_le (by omega)]
theorem take_marks {ms : List Int} (h : MarksOk ms) {n : Nat} (hn : 1 ≤ n) : MarksOk (ms.take n) := by
  have h1 := h.l1
  have h3 := h.l3
  refine ⟨by rw [List.length_take]; omega, by rw [List.length_take]; omega, fun m hm => h.in_ m (List.mem_of_mem_take hm), fun i a b ha hb => ?_⟩
  have hi : i + 1 < n := by
    have := (List.getElem?_eq_some_iff.mp hb).1
    rw [List.length_take] at this
    omega
  rw [List.getElem?_take_of_lt (by omega)] at ha
  rw [List.getElem?_take_of_lt hi] at hb
  exact h.gap i a b ha hb
theorem few_val (ns : List Int) {rw : Ro} (h : 0 ≤ rw.1) : ∃ ts rw', F__law_few ns [] rw = some (.dat (thsD ts), rw') ∧ HouseOk ts ∧ 0 ≤ rw'.1 := by
  obtain ⟨ts, rw1, e1, hts, _, r1⟩ := things_val ns (most := 3) (long := 3) (by decide) (by decide) (by decide) (by decide) h
  have hl1 := hts.l1
  have hl3 := hts.l3
  have st1 := set_eq (i := 1) (ss := [.row, .no, .no, .no]) (rw := rw) (callR_eq (i := 0) (ma := mCons (mC (.int 3)) (mCons (mC (.int 3)) mNil)) rfl rfl e1) (by simp)
  obtain ⟨n, hn, en⟩ : ∃ n : Nat, 1 ≤ n ∧ ixD (.dat (.list [.int 3, .int 3, .int 1])) (.dat (.int ((ts.length : Nat) - 1 : Int))) = some (.dat (.int (n : Nat))) := by
    have : ts.length = 1 ∨ ts.length = 2 ∨ ts.length = 3 := by omega
    rcases this with e | e | e <;> rw [e]
    · exact ⟨3, by decide, by simp [ixD, atI_0]⟩
    · exact ⟨3, by decide, by
        have := atI_1 (PyData.int 3) (PyData.int 3) [PyData.int 1]
        show ixD (.dat (.list [.int 3, .int 3, .int 1])) (.dat (.int 1)) = _
        unfold ixD
        simp only [this]
        rfl⟩
    · exact ⟨1, by decide, by
        have := atI_2 (PyData.int 3) (PyData.int 3) (PyData.int 1) []
        show ixD (.dat (.list [.int 3, .int 3, .int 1])) (.dat (.int 2)) = _
        unfold ixD
        simp only [this]
        rfl⟩
  let T : Sl := .vl (.dat (thsD ts))
  let S : List Sl := [.row, T, .no, .no]
  have nv : ∀ s2 s3 : Sl, ∀ rw : Ro, m2 ixD (mList (mLst (mCons (mC (.int 3)) (mCons (mC (.int 3)) (mCons (mC (.int 1)) mNil))))) (m2 subD (m1 lenD (mVar 1)) (mC (.int 1))) [.row, T, s2, s3] rw = some (.dat (.int (n : Nat)), rw) := fun s2 s3 rw => m2_eq (g := ixD) (x := .dat (.list [.int 3, .int 3, .int 1])) (rw1 := rw) rfl (m2_eq (g := subD) (m1_eq (g := lenD) (m := mVar 1) rfl (len_ths ts)) rfl rfl) en
  have go := lcGo_map (g := gTp 2 (gsCons (gNm 2) (gsCons (gNm 3) gsNil))) (tt := mYes) (te := mTup (mCons (mVar 2) (mCons (mSl (mVar 3) mNone (mSome (m2 ixD (mList (mLst (mCons (mC (.int 3)) (mCons (mC (.int 3)) (mCons (mC (.int 1)) mNil))))) (m2 subD (m1 lenD (mVar 1)) (mC (.int 1)))))) mNil))) (ss := S) (rw := rw1) thD (fun t => thD (t.1, t.2.take n)) (fun _ => true) ts fun t _ => by
    refine ⟨[.row, T, .vl (.dat (.str t.1)), .vl (.dat (mkD t.2))], rfl, rfl, fun _ => ?_⟩
    have sl : mSl (mVar 3) mNone (mSome (m2 ixD (mList (mLst (mCons (mC (.int 3)) (mCons (mC (.int 3)) (mCons (mC (.int 1)) mNil))))) (m2 subD (m1 lenD (mVar 1)) (mC (.int 1))))) [.row, T, .vl (.dat (.str t.1)), .vl (.dat (mkD t.2))] rw1 = some (.dat (mkD (t.2.take n)), rw1) := sl_eq (fa := mVar 3) rfl none_eq (some_eq (nv _ _ rw1)) (by
      unfold slD mkD
      simp only []
      rw [cut_takeA, List.map_take])
    exact tup_eq (cons_eq (m := mVar 2) rfl (cons_eq sl nil_eq)) rfl (by simp)
  rw [List.filter_eq_self.mpr (fun _ _ => rfl)] at go
  have lc := list_eq ((lc_eq (vs := [2, 3]) (mi := mSeq (mVar 1)) (xs := ts.map thD) (ss := S) (rw := rw1) (rw1 := rw1) rfl rfl (by rw [List.length_map]; omega)).trans go)
  let ts' := ts.map fun t => (t.1, t.2.take n)
  have el : ts.map (fun t => thD (t.1, t.2.take n)) = ts'.map thD := by rw [List.map_map]; rfl
  rw [el] at lc
  have en2 : ts'.map (·.1) = ts.map (·.1) := by rw [List.map_map]; rfl
  refine ⟨ts', rw1, bodyR_rt rfl ((seq_nx st1).trans (ret_eq lc)), ⟨by rw [List.length_map]; exact hl1, by rw [List.length_map]; exact hl3, fun t ht => ?_, fun t ht => ?_, by rw [en2]; exact hts.nd⟩, r1⟩
  · obtain ⟨u, hu, rfl⟩ := List.mem_map.mp ht
    exact take_marks (hts.mks u hu) hn
  · obtain ⟨u, hu, rfl⟩ := List.mem_map.mp ht
    exact hts.nm u hu
theorem first_all (r : List Spot) : ∀ (ties : List Tie) (k : Nat), (firstB r ties k).isNone = ties.all (keepB r)
  | [], _ => rfl
  | t :: ties, k => by
    unfold firstB
    rw [List.all_cons]
    cases keepB r t with
    | true => rw [if_pos rfl, first_all r ties (k + 1), Bool.true_and]
    | false => rw [if_neg (by simp)]; rfl
abbrev evry (ties : List Tie) (t : Tie) (k : Nat) : List Tie := ties.drop k ++ [t] ++ ties.take k
theorem all_evry (p : Tie → Bool) (ties : List Tie) (t : Tie) (k : Nat) : (evry ties t k).all p = (ties.all p && p t) := by
  have e : ties.all p = ((ties.take k).all p && (ties.drop k).all p) := by rw [← List.all_append, List.take_append_drop]
  rw [List.all_append, List.all_append, List.all_cons, List.all_nil, e]
  cases (ties.take k).all p <;> cases (ties.drop k).all p <;> cases p t <;> rfl
theorem rooms_more (ts : List Thing) (ties : List Tie) (t : Tie) (k : Nat) : roomsOf ts (evry ties t k) = (roomsOf ts ties).filter fun r => keepB r t := by
  unfold roomsOf
  rw [List.filter_filter]
  refine List.filter_congr fun r _ => ?_
  rw [first_all, first_all, all_evry, Bool.and_comm]
theorem rooms_rev (ts : List Thing) (ties : List Tie) : roomsOf ts ties.reverse = roomsOf ts ties := by
  unfold roomsOf
  refine List.filter_congr fun r _ => ?_
  rw [first_all, first_all, List.all_reverse]
theorem nexts_more (ts : List Thing) (ties : List Tie) (t : Tie) (k : Nat) (r : List Spot) : nextsB ts (evry ties t k) r = (nextsB ts ties r).filter fun r => keepB r t := by
  unfold nextsB
  rw [List.filter_filter]
  refine List.filter_congr fun o _ => ?_
  unfold nextP
  rw [first_all, first_all, all_evry]
  cases decide (o = r) <;> cases ties.all (keepB o) <;> cases keepB o t <;> rfl
theorem nexts_rev (ts : List Thing) (ties : List Tie) (r : List Spot) : nextsB ts ties.reverse r = nextsB ts ties r := by
  unfold nextsB
  refine List.filter_congr fun o _ => ?_
  unfold nextP
  rw [first_all, first_all, List.all_reverse]
theorem eqO_self (l : List (List Spot)) : eqO (.list (l.map rmD)) (.list (l.map rmD)) = some true := by
  have h := shaped_rooms l
  unfold eqO
  simp only [dV]
  rw [if_pos ⟨h, h⟩, SeqAt.eqv_refl _ (SeqAt.canLay_of_shaped h)]
theorem eq_selfR (l : List (List Spot)) : eqD (.dat (.list (l.map rmD))) (.dat (.list (l.map rmD))) = some (.dat (.bool true)) := by
  unfold eqD
  simp only [eqO_self]
theorem ne_selfR (l : List (List Spot)) : neD (.dat (.list (l.map rmD))) (.dat (.list (l.map rmD))) = some (.dat (.bool false)) := by
  unfold neD
  simp only [eqO_self]
  rfl
theorem in_rooms (o : List Spot) (l : List (List Spot)) : ninD (.dat (rmD o)) (.dat (.list (l.map rmD))) = some (.dat (.bool (!decide (o ∈ l)))) := by
  have any : ((l.map rmD).any fun z => PyData.eqv z (rmD o)) = decide (o ∈ l) := by
    induction l with
    | nil => rfl
    | cons x l ih =>
      have e : PyData.eqv (rmD x) (rmD o) = decide (x = o) := by
        show PyData.eqv (.tuple (x.map spD)) (.tuple (o.map spD)) = _
        unfold PyData.eqv
        exact eqvAll_spots x o
      rw [List.map_cons, List.any_cons, ih, e]
      by_cases q : x = o
      · subst q; simp
      · have q' : ¬ o = x := fun z => q z.symm
        simp [q, q']
  have e : inO (rmD o) (.list (l.map rmD)) = some (decide (o ∈ l)) := by
    show (match dV (rmD o), dVs (l.map rmD) with
      | some v, some vs => some (inV v vs)
      | _, _ => if SeqAt.shaped (rmD o) = true ∧ SeqAt.shaped (.list (l.map rmD)) = true then some ((l.map rmD).any fun z => PyData.eqv z (rmD o)) else none) = _
    have d : dV (rmD o) = none := rfl
    rw [d]
    simp only []
    rw [if_pos ⟨shaped_room o, shaped_rooms l⟩, any]
  unfold ninD
  simp only [e]
theorem keep_lc {ts : List Thing} {t : Tie} (ht : TieOk ts t) {ss : List Sl} {rw : Ro} {src : Mx (List PyData)} {l : List (List Spot)} (hl : ∀ o ∈ l, RoomIn ts o) (hf : l.length ≤ 100000) (hs : src ss rw = some (l.map rmD, rw)) (h4 : ∀ d, ∃ s1, gNm 12 d ss = some s1 ∧ mVar 4 s1 = (fun rw => some (.dat (tieD t), rw)) ∧ mVar 12 s1 = fun rw => some (.dat d, rw)) (h0 : noOwn ss [12] = true) (hss : wipeS ss [12] = ss) :
    mLc [12] src (gNm 12) (mTst (mCall F__law_keeps (mCons (mVar 4) (mCons (mVar 12) mNil)))) (mVar 12) ss rw = some ((l.filter fun o => keepB o t).map rmD, rw) := by
  have go := lcGo_map (g := gNm 12) (tt := mTst (mCall F__law_keeps (mCons (mVar 4) (mCons (mVar 12) mNil)))) (te := mVar 12) (ss := ss) (rw := rw) rmD rmD (fun o => keepB o t) l fun o ho => by
    obtain ⟨s1, e1, e2, e3⟩ := h4 (rmD o)
    exact ⟨s1, e1, tst_eq (call_eq (cons_eq (by rw [e2]) (cons_eq (by rw [e3]) nil_eq)) (lkeeps_val (hl o ho).ok ht)), fun _ => by rw [e3]⟩
  have := lc_eq (vs := [12]) (g := gNm 12) (tt := mTst (mCall F__law_keeps (mCons (mVar 4) (mCons (mVar 12) mNil)))) (te := mVar 12) h0 hs (by rw [List.length_map]; exact hf)
  rw [hss] at this
  exact this.trans go
theorem ti_drop {ties : List Tie} {k : Nat} (h : k ≤ ties.length) : slD (.dat (tisD ties)) (some (k : Int)) none = some (.dat (tisD (ties.drop k))) := by
  unfold slD tisD
  simp only []
  rw [cut_drop (by rw [List.length_map]; exact h), List.map_drop]
theorem ti_take {ties : List Tie} (k : Nat) : slD (.dat (tisD ties)) none (some (k : Int)) = some (.dat (tisD (ties.take k))) := by
  unfold slD tisD
  simp only []
  rw [cut_takeA, List.map_take]
theorem ti_add {a b : List Tie} (h : a.length + b.length ≤ 100000) : addD (.dat (tisD a)) (.dat (tisD b)) = some (.dat (tisD (a ++ b))) := by
  unfold addD tisD
  simp only [List.length_map]
  rw [if_pos h, List.map_append]
theorem holds (ns : List Int) (_ : ns.length ≤ 63) : F_law ns = some (.dat (.bool true)) := by
  obtain ⟨ts, rw1, e1, hts, r1⟩ := few_val ns (rw := (0, 0)) (Int.le_refl _)
  have hm := hts.marked
  have h3 := hts.l3
  obtain ⟨ties, rw2, e2, ht, hl, r2⟩ := ties_val ns hts.l1 hts.l3 hm (most := 5) (by decide) (by decide) r1
  have hl5 : ties.length ≤ 5 := by omega
  obtain ⟨t, rw3, e3, hto, r3⟩ := tie_val ns hts.l1 hts.l3 hm r2
  let T : Sl := .vl (.dat (thsD ts))
  let Ti : Sl := .vl (.dat (tisD ties))
  let U : Sl := .vl (.dat (tieD t))
  have st1 := set_eq (i := 2) (ss := [.no, .row, .no, .no, .no, .no, .no, .no, .no, .no, .no, .no, .no]) (rw := (0, 0)) (callR_eq (i := 1) (ma := mNil) (xs := []) rfl rfl e1) (by simp)
  have st2 := set_eq (i := 3) (ss := [.no, .row, T, .no, .no, .no, .no, .no, .no, .no, .no, .no, .no]) (rw := rw1) (callR_eq (i := 1) (ma := mCons (mVar 2) (mCons (mC (.int 5)) mNil)) rfl rfl e2) (by simp)
  have st3 := set_eq (i := 4) (ss := [.no, .row, T, Ti, .no, .no, .no, .no, .no, .no, .no, .no, .no]) (rw := rw2) (callR_eq (i := 1) (ma := mCons (mVar 2) mNil) rfl rfl e3) (by simp)
  have lt : lenD (.dat (tisD ties)) = some (.dat (.int (ties.length : Nat))) := by
    unfold lenD tisD
    simp only [List.length_map]
  obtain ⟨u, rw4, e4, u0, u1, r4⟩ := draw (ns := ns) (i := 1) (ma := mCons (m2 addD (m1 lenD (mVar 3)) (mC (.int 1))) mNil) (ss := [.no, .row, T, Ti, U, .no, .no, .no, .no, .no, .no, .no, .no]) (rw := rw3) (m := (ties.length : Nat) + 1) rfl (cons_eq (m2_eq (g := addD) (m1_eq (g := lenD) (m := mVar 3) rfl lt) rfl rfl) nil_eq) (by omega) r3
  obtain ⟨k, rfl⟩ : ∃ k : Nat, u = (k : Int) := ⟨u.toNat, by omega⟩
  have hk : k ≤ ties.length := by omega
  have st4 := set_eq (i := 5) e4 (by simp)
  let K : Sl := .vl (.dat (.int (k : Nat)))
  let ev := evry ties t k
  have evl : ev.length = ties.length + 1 := by
    show (ties.drop k ++ [t] ++ ties.take k).length = _
    rw [List.length_append, List.length_append, List.length_drop, List.length_take, List.length_cons, List.length_nil]
    omega
  have hev : ∀ x ∈ ev, TieOk ts x := fun x hx => by
    rcases List.mem_append.mp hx with hx | hx
    · rcases List.mem_append.mp hx with hx | hx
      · exact ht x (List.mem_of_mem_drop hx)
      · rw [List.mem_singleton.mp hx]; exact hto
    · exact ht x (List.mem_of_mem_take hx)
  have hevr : ∀ x ∈ ev.reverse, TieOk ts x := fun x hx => hev x (List.mem_reverse.mp hx)
  let S4 : List Sl := [.no, .row, T, Ti, U, K, .no, .no, .no, .no, .no, .no, .no]
  have b1 : mSl (mVar 3) (mSome (mVar 5)) mNone S4 rw4 = some (.dat (tisD (ties.drop k)), rw4) := sl_eq (fa := mVar 3) rfl (some_eq (fa := mVar 5) rfl) none_eq (ti_drop hk)
  have b2 : mSl (mVar 3) mNone (mSome (mVar 5)) S4 rw4 = some (.dat (tisD (ties.take k)), rw4) := sl_eq (fa := mVar 3) rfl none_eq (some_eq (fa := mVar 5) rfl) (ti_take k)
  have b3 : mList (mLst (mCons (mVar 4) mNil)) S4 rw4 = some (.dat (tisD [t]), rw4) := list_eq (lst_eq (cons_eq (m := mVar 4) rfl nil_eq) rfl (by simp))
  have b4 := m2_eq (g := addD) (m2_eq (g := addD) b1 b3 (ti_add (by rw [List.length_drop]; simp; omega))) b2 (ti_add (by rw [List.length_append, List.length_drop, List.length_take]; simp; omega))
  have st5 := set_eq (i := 6) b4 (by simp [S4])
  let E : Sl := .vl (.dat (tisD ev))
  let H1 : Sl := .vl (hsD ts ties)
  let H2 : Sl := .vl (hsD ts ev)
  let H3 : Sl := .vl (hsD ts ev.reverse)
  have st6 := set_eq (i := 7) (ss := [.no, .row, T, Ti, U, K, E, .no, .no, .no, .no, .no, .no]) (rw := rw4) (make_eq (F1 := F_check_things) (F2 := F_check_ties) (ma := mCons (m1 listD (mVar 2)) (mCons (m1 listD (mVar 3)) mNil)) (ts := ts.map thD) (ties := ties.map tieD) (rw1 := rw4) rfl (check_things_val hts) (check_ties_val ht (by omega))) (by simp)
  have st7 := set_eq (i := 8) (ss := [.no, .row, T, Ti, U, K, E, H1, .no, .no, .no, .no, .no]) (rw := rw4) (make_eq (F1 := F_check_things) (F2 := F_check_ties) (ma := mCons (m1 listD (mVar 2)) (mCons (m1 listD (mVar 6)) mNil)) (ts := ts.map thD) (ties := ev.map tieD) (rw1 := rw4) rfl (check_things_val hts) (check_ties_val hev (by omega))) (by simp)
  have rv : mCons (m1 listD (mVar 2)) (mCons (mList (mRev (mVar 6))) mNil) [.no, .row, T, Ti, U, K, E, H1, H2, .no, .no, .no, .no] rw4 = some ([.dat (.list (ts.map thD)), .dat (.list (ev.reverse.map tieD))], rw4) := by
    rw [List.map_reverse]
    rfl
  have st8 := set_eq (i := 9) (ss := [.no, .row, T, Ti, U, K, E, H1, H2, .no, .no, .no, .no]) (rw := rw4) (make_eq (F1 := F_check_things) (F2 := F_check_ties) (ts := ts.map thD) (ties := ev.reverse.map tieD) (rw1 := rw4) rv (check_things_val hts) (check_ties_val hevr (by rw [List.length_reverse]; omega))) (by simp)
  obtain ⟨r, rw5, e5, hr, r5⟩ := room_val ns hm hts.l3 hev (by omega) r4
  have st9 := set_eq (i := 10) (ss := [.no, .row, T, Ti, U, K, E, H1, H2, H3, .no, .no, .no]) (rw := rw4) (callR_eq (i := 1) (ma := mCons (mVar 2) (mCons (mVar 6) mNil)) rfl rfl e5) (by simp)
  let R : Sl := .vl (.dat (rmD r))
  let S9 : List Sl := [.no, .row, T, Ti, U, K, E, H1, H2, H3, R, .no, .no]
  have al := all_len hm hts.l3
  have rin : ∀ (tt : List Tie), ∀ o ∈ roomsOf ts tt, RoomIn ts o := fun tt o ho => all_in (List.mem_filter.mp ho).1
  have rlen : ∀ tt : List Tie, (roomsOf ts tt).length ≤ 100000 := fun tt => Nat.le_trans (List.length_filter_le _ _) (by omega)
  have nlen : ∀ tt : List Tie, (nextsB ts tt r).length ≤ 100000 := fun tt => Nat.le_trans (List.length_filter_le _ _) (Nat.le_trans (prod_few hm hts.l3 hr) (by omega))
  have ro : ∀ {tt : List Tie} (i : Nat) (ss : List Sl), (∀ x ∈ tt, TieOk ts x) → ss[i]? = some (.vl (hsD ts tt)) → mList (mCallL F_rooms (mCons (mVar i) mNil)) ss rw5 = some (.dat (.list ((roomsOf ts tt).map rmD)), rw5) := fun i ss hx hi => list_eq (callL_eq (cons_eq (by unfold mVar; rw [hi]) nil_eq) (rooms_val hm hts.l3 hx (by omega)))
  have no : ∀ {tt : List Tie} (i : Nat) (ss : List Sl), (∀ x ∈ tt, TieOk ts x) → ss[i]? = some (.vl (hsD ts tt)) → ss[10]? = some R → mList (mCallL F_nexts (mCons (mVar i) (mCons (mVar 10) mNil))) ss rw5 = some (.dat (.list ((nextsB ts tt r).map rmD)), rw5) := fun i ss hx hi h10 => list_eq (callL_eq (cons_eq (by unfold mVar; rw [hi]) (cons_eq (by unfold mVar; rw [h10]) nil_eq)) (nexts_val hm hts.l3 hx hr))
  have t1 : mTst (m2 neD (mList (mCallL F_rooms (mCons (mVar 8) mNil))) (mList (mLc [12] (mSeq (mList (mCallL F_rooms (mCons (mVar 7) mNil)))) (gNm 12) (mTst (mCall F__law_keeps (mCons (mVar 4) (mCons (mVar 12) mNil)))) (mVar 12)))) S9 rw5 = some (false, rw5) := by
    have src := seq_eq (ro (tt := ties) 7 S9 ht rfl) rfl
    have lc := list_eq (keep_lc hto (ss := S9) (rw := rw5) (l := roomsOf ts ties) (rin ties) (rlen ties) src (fun d => ⟨_, rfl, rfl, rfl⟩) rfl rfl)
    rw [← rooms_more ts ties t k] at lc
    exact tst_eq (m2_eq (g := neD) (ro (tt := ev) 8 S9 hev rfl) lc (ne_selfR _))
  have t2 : mTst (m2 neD (mList (mCallL F_nexts (mCons (mVar 8) (mCons (mVar 10) mNil)))) (mList (mLc [12] (mSeq (mList (mCallL F_nexts (mCons (mVar 7) (mCons (mVar 10) mNil))))) (gNm 12) (mTst (mCall F__law_keeps (mCons (mVar 4) (mCons (mVar 12) mNil)))) (mVar 12)))) S9 rw5 = some (false, rw5) := by
    have src := seq_eq (no (tt := ties) 7 S9 ht rfl rfl) rfl
    have lc := list_eq (keep_lc hto (ss := S9) (rw := rw5) (l := nextsB ts ties r) (fun o ho => next_in hr ho) (nlen ties) src (fun d => ⟨_, rfl, rfl, rfl⟩) rfl rfl)
    rw [← nexts_more ts ties t k r] at lc
    exact tst_eq (m2_eq (g := neD) (no (tt := ev) 8 S9 hev rfl rfl) lc (ne_selfR _))
  obtain ⟨l1, f1, R1⟩ := reach_val hm hts.l1 hts.l3 ht hr
  obtain ⟨l2, f2, R2⟩ := reach_val hm hts.l1 hts.l3 hev hr
  have sub : ∀ o ∈ l2, o ∈ l1 := R2.ind (fun o => o ∈ l1) R1.me fun o ho hP p hp => by
    refine R1.clo o hP p ?_
    rw [show nextsB ts ev o = (nextsB ts ties o).filter fun r => keepB r t from nexts_more ts ties t k o] at hp
    exact (List.mem_filter.mp hp).1
  have st10 := set_eq (i := 11) (ss := S9) (rw := rw5) (list_eq (callL_eq (ma := mCons (mVar 7) (mCons (mVar 10) mNil)) rfl f1)) (by simp [S9])
  let S10 : List Sl := [.no, .row, T, Ti, U, K, E, H1, H2, H3, R, .vl (.dat (.list (l1.map rmD))), .no]
  have t3 : mTst (m2 neD (mList (mLc [12] (mSeq (mList (mCallL F_reach (mCons (mVar 8) (mCons (mVar 10) mNil))))) (gNm 12) (mTst (m2 ninD (mVar 12) (mVar 11))) (mVar 12))) (mList (mLst mNil))) S10 rw5 = some (false, rw5) := by
    have src : mSeq (mList (mCallL F_reach (mCons (mVar 8) (mCons (mVar 10) mNil)))) S10 rw5 = some (l2.map rmD, rw5) := seq_eq (list_eq (callL_eq (ma := mCons (mVar 8) (mCons (mVar 10) mNil)) rfl f2)) rfl
    have go := lcGo_map (g := gNm 12) (tt := mTst (m2 ninD (mVar 12) (mVar 11))) (te := mVar 12) (ss := S10) (rw := rw5) rmD rmD (fun o => !decide (o ∈ l1)) l2 fun o _ =>
      ⟨[.no, .row, T, Ti, U, K, E, H1, H2, H3, R, .vl (.dat (.list (l1.map rmD))), .vl (.dat (rmD o))], rfl, tst_eq (m2_eq (g := ninD) (m := mVar 12) (n := mVar 11) rfl rfl (in_rooms o l1)), fun _ => rfl⟩
    rw [List.filter_eq_nil_iff.mpr (fun o ho => by simp [sub o ho])] at go
    have lc := list_eq ((lc_eq (vs := [12]) (g := gNm 12) (tt := mTst (m2 ninD (mVar 12) (mVar 11))) (te := mVar 12) (ss := S10) rfl src (by rw [List.length_map]; have := R2.few; omega)).trans go)
    exact tst_eq (m2_eq (g := neD) lc rfl (ne_nilr []))
  have l3 : m2 eqD (mList (mCallL F_rooms (mCons (mVar 9) mNil))) (mList (mCallL F_rooms (mCons (mVar 8) mNil))) S10 rw5 = some (.dat (.bool true), rw5) := by
    have a := ro (tt := ev.reverse) 9 S10 hevr rfl
    rw [rooms_rev] at a
    exact m2_eq (g := eqD) a (ro (tt := ev) 8 S10 hev rfl) (eq_selfR _)
  have l4 : m2 eqD (mList (mCallL F_nexts (mCons (mVar 9) (mCons (mVar 10) mNil)))) (mList (mCallL F_nexts (mCons (mVar 8) (mCons (mVar 10) mNil)))) S10 rw5 = some (.dat (.bool true), rw5) := by
    have a := no (tt := ev.reverse) 9 S10 hevr rfl rfl
    rw [nexts_rev] at a
    exact m2_eq (g := eqD) a (no (tt := ev) 8 S10 hev rfl rfl) (eq_selfR _)
  have last := ret_eq (andV_gen l3 fun _ => l4)
  have fin : m_law ns (ssT 13) (0, 0) = some (.rt (.dat (.bool true)) rw5) :=
    (seq_nx st1).trans ((seq_nx st2).trans ((seq_nx st3).trans ((seq_nx st4).trans ((seq_nx st5).trans ((seq_nx st6).trans ((seq_nx st7).trans ((seq_nx st8).trans ((seq_nx st9).trans ((seq_nx ((ifF t1).trans rfl)).trans ((seq_nx ((ifF t2).trans rfl)).trans ((seq_nx st10).trans ((seq_nx ((ifF t3).trans rfl)).trans last))))))))))))
  unfold F_law bodyT
  rw [fin]
end Law
section
open PySem PySem.W PyProof.Rows
set_option maxHeartbeats 0
open_top hd for PySem.Challenge.rw_trendhouse_k07_whole_more_ties_never_let
end
open PySem PySem.W PyProof.Rows in
set_option maxRecDepth 100000 in
set_option maxHeartbeats 0 in
theorem PySem.Challenge.cw_trendhouse_k07_whole_more_ties_never_let_holds : PySem.Challenge.rw_trendhouse_k07_whole_more_ties_never_let.Holds := by
  refine hd ?_
  k_fill
  refine L2.walk_of (l := PySem.Challenge.rw_trendhouse_k07_whole_more_ties_never_let) (n := 63) (k := 8) (x := "_law_script") (CX := fun _ => L2.CX0) (sp := fun w => FL.spT _ Law.F_law) rfl (by decide) rfl ⟨rfl, by decide, by decide⟩ (fun w h Y => PySem.W.kIn_of Y) ?F (fun _ _ a ns hl _ hS => ⟨a, ns, rfl, hS, Law.holds ns hl, fun _ => rfl⟩) (fun _ _ _ _ _ z => z)
  case F =>
    intro w mg fa h KX G hmg
    refine' Law.all_mk KX G hmg ?a1 ?l1 ?c1 ?k1 ?a2 ?l2 ?c2 ?k2 ?a3 ?l3 ?c3 ?k3 ?a4 ?l4 ?c4 ?k4 ?a5 ?l5 ?c5 ?k5 ?a6 ?l6 ?c6 ?k6 ?a7 ?l7 ?c7 ?k7 ?a8 ?l8 ?c8 ?k8 ?a9 ?l9 ?c9 ?k9 ?a10 ?l10 ?c10 ?k10 ?a11 ?l11 ?c11 ?k11 ?a12 ?l12 ?c12 ?k12 ?a13 ?l13 ?c13 ?k13 ?a14 ?l14 ?c14 ?k14 ?a15 ?l15 ?c15 ?k15 ?a16 ?l16 ?c16 ?k16 ?a17 ?l17 ?c17 ?k17 ?a18 ?l18 ?c18 ?k18 ?a19 ?l19 ?c19 ?k19 ?a20 ?l20 ?c20 ?k20 ?a21 ?l21 ?c21 ?k21 ?a22 ?l22 ?c22 ?k22 ?a23 ?l23 ?c23 ?k23 ?a24 ?l24 ?c24 ?k24 ?a25 ?l25 ?c25 ?k25 ?a26 ?l26 ?c26 ?k26 ?a27 ?l27 ?c27 ?k27 ?a28 ?l28 ?c28 ?k28 ?a29 ?l29 ?c29 ?k29 ?a30 ?l30 ?c30 ?k30 ?a31 ?l31 ?c31 ?k31 ?a32 ?l32 ?c32 ?k32 ?a33 ?l33 ?c33 ?k33 ?a34 ?l34 ?c34 ?k34 ?a35 ?l35 ?c35 ?k35 ?aC ?m36 ?i36 ?l36 ?c36 ?k36 ?m37 ?i37 ?l37 ?c37 ?k37 ?m38 ?i38 ?l38 ?c38 ?k38 ?pg ?hd ?po ?sa ?mk ?kc ?nT ?nI ?z_ValueError ?z_len ?z_tuple ?z_list ?z_int ?z_all ?z_range ?z_enumerate ?z_zip ?z_isinstance ?z_sorted ?z_set ?z_reversed ?g_TRENDS ?h_TRENDS ?v_TRENDS ?w_TRENDS ?g_LETTERS ?g_LONGEST_NAME ?g_MOST_THINGS ?g_MOST_MARKS ?g_MOST_TIES ?g_LOWEST_MARK ?g_HIGHEST_MARK ?g_LEAST_GAP ?g_THINGS_NAMED ?h_THINGS_NAMED ?e_THINGS_NAMED_ ?s_THINGS_NAMED ?g_MARK_WORDS ?h_MARK_WORDS ?v_MARK_WORDS ?w_MARK_WORDS ?g0 ?g1 ?gT ?xe ?xk ?y3 ?xt
    (case a1 => k_is)
    (case l1 => k_is)
    (case c1 => k_is)
    (case k1 => k_is)
    (case a2 => k_is)
    (case l2 => k_is)
    (case c2 => k_is)
    (case k2 => k_is)
    (case a3 => k_is)
    (case l3 => k_is)
    (case c3 => k_is)
    (case k3 => k_is)
    (case a4 => k_is)
    (case l4 => k_is)
    (case c4 => k_is)
    (case k4 => k_is)
    (case a5 => k_is)
    (case l5 => k_is)
    (case c5 => k_is)
    (case k5 => k_is)
    (case a6 => k_is)
    (case l6 => k_is)
    (case c6 => k_is)
    (case k6 => k_is)
    (case a7 => k_is)
    (case l7 => k_is)
    (case c7 => k_is)
    (case k7 => k_is)
    (case a8 => k_is)
    (case l8 => k_is)
    (case c8 => k_is)
    (case k8 => k_is)
    (case a9 => k_is)
    (case l9 => k_is)
    (case c9 => k_is)
    (case k9 => k_is)
    (case a10 => k_is)
    (case l10 => k_is)
    (case c10 => k_is)
    (case k10 => k_is)
    (case a11 => k_is)
    (case l11 => k_is)
    (case c11 => k_is)
    (case k11 => k_is)
    (case a12 => k_is)
    (case l12 => k_is)
    (case c12 => k_is)
    (case k12 => k_is)
    (case a13 => k_is)
    (case l13 => k_is)
    (case c13 => k_is)
    (case k13 => k_is)
    (case a14 => k_is)
    (case l14 => k_is)
    (case c14 => k_is)
    (case k14 => k_is)
    (case a15 => k_is)
    (case l15 => k_is)
    (case c15 => k_is)
    (case k15 => k_is)
    (case a16 => k_is)
    (case l16 => k_is)
    (case c16 => k_is)
    (case k16 => k_is)
    (case a17 => k_is)
    (case l17 => k_is)
    (case c17 => k_is)
    (case k17 => k_is)
    (case a18 => k_is)
    (case l18 => k_is)
    (case c18 => k_is)
    (case k18 => k_is)
    (case a19 => k_is)
    (case l19 => k_is)
    (case c19 => k_is)
    (case k19 => k_is)
    (case a20 => k_is)
    (case l20 => k_is)
    (case c20 => k_is)
    (case k20 => k_is)
    (case a21 => k_is)
    (case l21 => k_is)
    (case c21 => k_is)
    (case k21 => k_is)
    (case a22 => k_is)
    (case l22 => k_is)
    (case c22 => k_is)
    (case k22 => k_is)
    (case a23 => k_is)
    (case l23 => k_is)
    (case c23 => k_is)
    (case k23 => k_is)
    (case a24 => k_is)
    (case l24 => k_is)
    (case c24 => k_is)
    (case k24 => k_is)
    (case a25 => k_is)
    (case l25 => k_is)
    (case c25 => k_is)
    (case k25 => k_is)
    (case a26 => k_is)
    (case l26 => k_is)
    (case c26 => k_is)
    (case k26 => k_is)
    (case a27 => k_is)
    (case l27 => k_is)
    (case c27 => k_is)
    (case k27 => k_is)
    (case a28 => k_is)
    (case l28 => k_is)
    (case c28 => k_is)
    (case k28 => k_is)
    (case a29 => k_is)
    (case l29 => k_is)
    (case c29 => k_is)
    (case k29 => k_is)
    (case a30 => k_is)
    (case l30 => k_is)
    (case c30 => k_is)
    (case k30 => k_is)
    (case a31 => k_is)
    (case l31 => k_is)
    (case c31 => k_is)
    (case k31 => k_is)
    (case a32 => k_is)
    (case l32 => k_is)
    (case c32 => k_is)
    (case k32 => k_is)
    (case a33 => k_is)
    (case l33 => k_is)
    (case c33 => k_is)
    (case k33 => k_is)
    (case a34 => k_is)
    (case l34 => k_is)
    (case c34 => k_is)
    (case k34 => k_is)
    (case a35 => k_is)
    (case l35 => k_is)
    (case c35 => k_is)
    (case k35 => k_is)
    (case aC => k_is)
    (case m36 => k_is)
    (case i36 => k_is)
    (case l36 => k_is)
    (case c36 => k_is)
    (case k36 => k_is)
    (case m37 => k_is)
    (case i37 => k_is)
    (case l37 => k_is)
    (case c37 => k_is)
    (case k37 => k_is)
    (case m38 => k_is)
    (case i38 => k_is)
    (case l38 => k_is)
    (case c38 => k_is)
    (case k38 => k_is)
    (case pg => k_is)
    (case hd => k_is)
    (case po => k_is)
    (case sa => k_is)
    (case mk => k_is)
    (case kc => k_is)
    (case nT => k_is)
    (case nI => k_is)
    (case z_ValueError => k_is)
    (case z_len => k_is)
    (case z_tuple => k_is)
    (case z_list => k_is)
    (case z_int => k_is)
    (case z_all => k_is)
    (case z_range => k_is)
    (case z_enumerate => k_is)
    (case z_zip => k_is)
    (case z_isinstance => k_is)
    (case z_sorted => k_is)
    (case z_set => k_is)
    (case z_reversed => k_is)
    (case g_TRENDS => k_is)
    (case h_TRENDS => k_is)
    (case v_TRENDS => exact (.cons ⟨_, rfl⟩ (.cons ⟨_, rfl⟩ (.cons ⟨_, rfl⟩ .nil))))
    (case w_TRENDS => decide)
    (case g_LETTERS => k_is)
    (case g_LONGEST_NAME => k_is)
    (case g_MOST_THINGS => k_is)
    (case g_MOST_MARKS => k_is)
    (case g_MOST_TIES => k_is)
    (case g_LOWEST_MARK => k_is)
    (case g_HIGHEST_MARK => k_is)
    (case g_LEAST_GAP => k_is)
    (case g_THINGS_NAMED => k_is)
    (case h_THINGS_NAMED => k_is)
    (case e_THINGS_NAMED_ => repeat constructor)
    (case s_THINGS_NAMED => first | rfl | decide)
    (case g_MARK_WORDS => k_is)
    (case h_MARK_WORDS => k_is)
    (case v_MARK_WORDS => exact (.cons ⟨_, rfl⟩ (.cons ⟨_, rfl⟩ (.cons ⟨_, rfl⟩ .nil))))
    (case w_MARK_WORDS => decide)
    (case g0 => k_is)
    (case g1 => k_is)
    (case gT => k_is)
    (case xe => k_exc)
    (case xk => k_is)
    (case y3 => k_is)
    (case xt => k_is)
