import PyProof.Rows.All
import Wide.All
import OpenK.AllK
import Wide.FinOn
import HandS.ForMost
import HandS.Evl
import HandS.IsInst
import HandS.Zip
import HandS.Conv
import HandS.Wide
import HandS.TupAny
import HandS.Sort
import HandS.SortInts
import HandS.More
import KE.GoesEnum
import HandS.Walk
import PySem.Challenge.RW_treetally_k04_worths_by_first_rows
set_option Elab.async false
set_option linter.all false
set_option maxRecDepth 100000
namespace Fw
open PySem PySem.Spec PyProof.Rows L2 Evl

abbrev En := List (Option (PyData × Bool))

abbrev Rq (H : Hp) (a : Addr) (u : HO) : Prop := H a = some u
theorem ex_rq {H H' : Hp} {a : Addr} {u : HO} (e : Ex H H') (h : Rq H a u) : Rq H' a u := e a u h
mutual
inductive Dq (H : Hp) : V → PyData → Prop
  | non : Dq H .non .none
  | bl (b : Bool) : Dq H (.bl b) (.bool b)
  | int (i : Int) : Dq H (.int i) (.int i)
  | str (x : Str) : Dq H (.str x) (.str x)
  | op (a : Addr) : Dq H (.ref a) (.dict [(.int (Int.ofNat a), .none)])
  | fz {a : Addr} {o : Obj} (ns : List Int) : H a = some (.frz o (.lst (ns.map V.int))) → Dq H (.ref a) (.dict [(.list (ns.map .int), .none)])
  | lst {a : Addr} {xs : List V} {ds : List PyData} : Rq H a (.lst xs) → DqAll H xs ds → Dq H (.ref a) (.list ds)
  | tup {a : Addr} {xs : List V} {ds : List PyData} : Rq H a (.tup xs) → DqAll H xs ds → Dq H (.ref a) (.tuple ds)
inductive DqAll (H : Hp) : List V → List PyData → Prop
  | nil : DqAll H [] []
  | cons {v : V} {vs : List V} {d : PyData} {ds : List PyData} : Dq H v d → DqAll H vs ds → DqAll H (v :: vs) (d :: ds)
end
section

/-! data under a growing heap -/
mutual
theorem dq_dp {K : PySem.W.Frag} {H : Hp} : ∀ {d : PyData} {v : V}, d.canLay0 = true → Dq H v d → Dp K H v d
  | .none, _, _, h => by cases h; exact .non
  | .bool _, _, _, h => by cases h; exact .bl _
  | .int _, _, _, h => by cases h; exact .int _
  | .str _, _, _, h => by cases h; exact .str _
  | .list _, _, c, h => by
    cases h with
    | lst a b => exact .lst (.inl (.inl a)) (dqa_dp (by simpa [PyData.canLay0] using c) b)
  | .tuple _, _, c, h => by
    cases h with
    | tup a b => exact .tup (.inl (.inl a)) (dqa_dp (by simpa [PyData.canLay0] using c) b)
  | .dict _, _, c, h => by simp [PyData.canLay0] at c
theorem dqa_dp {K : PySem.W.Frag} {H : Hp} : ∀ {ds : List PyData} {vs : List V}, PyData.canLayAll0 ds = true → DqAll H vs ds → DpAll K H vs ds
  | [], _, _, h => by cases h; exact .nil
  | _ :: _, _, c, h => by
    cases h with
    | cons a b =>
      have c' := Bool.and_eq_true_iff.mp (by simpa [PyData.canLayAll0] using c)
      exact .cons (dq_dp c'.1 a) (dqa_dp c'.2 b)
end
mutual
theorem dp_mono {H H' : Hp} (e : Ex H H') : ∀ {d : PyData} {v : V}, Dq H v d → Dq H' v d
  | .none, _, h => by cases h; exact .non
  | .bool _, _, h => by cases h; exact .bl _
  | .int _, _, h => by cases h; exact .int _
  | .str _, _, h => by cases h; exact .str _
  | .list _, _, h => by
    cases h with
    | lst a b => exact .lst (ex_rq e a) (dpa_mono e b)
  | .tuple _, _, h => by
    cases h with
    | tup a b => exact .tup (ex_rq e a) (dpa_mono e b)
  | .dict _, _, h => by
    cases h with
    | op a => exact .op _
    | fz ns h => exact .fz ns (e _ _ h)
theorem dpa_mono {H H' : Hp} (e : Ex H H') : ∀ {ds : List PyData} {vs : List V}, DqAll H vs ds → DqAll H' vs ds
  | [], _, h => by cases h; exact .nil
  | _ :: _, _, h => by
    cases h with
    | cons a b => exact .cons (dp_mono e a) (dpa_mono e b)
end
theorem dpa_len {H : Hp} : ∀ {ds : List PyData} {vs : List V}, DqAll H vs ds → vs.length = ds.length
  | [], _, h => by cases h; rfl
  | _ :: _, _, h => by
    cases h with
    | cons a b => exact congrArg (· + 1) (dpa_len b)
theorem dpa_get {H : Hp} : ∀ {ds : List PyData} {vs : List V} {i : Nat} {d : PyData}, DqAll H vs ds → ds[i]? = some d → ∃ v, vs[i]? = some v ∧ Dq H v d
  | [], _, _, _, h, e => by simp at e
  | x :: _, _, 0, d, h, e => by
    cases h with
    | cons a b =>
      have e' : x = d := by simpa using e
      subst e'
      exact ⟨_, rfl, a⟩
  | _ :: _, _, i + 1, d, h, e => by
    cases h with
    | cons a b =>
      obtain ⟨v, h1, h2⟩ := dpa_get b (by simpa using e)
      exact ⟨v, by simpa using h1, h2⟩
theorem dpa_get' {H : Hp} : ∀ {ds : List PyData} {vs : List V} {i : Nat} {v : V}, DqAll H vs ds → vs[i]? = some v → ∃ d, ds[i]? = some d ∧ Dq H v d
  | [], _, _, _, h, e => by cases h; simp at e
  | x :: _, _, 0, v, h, e => by
    cases h with
    | cons a b =>
      have e' := Option.some.inj e
      subst e'
      exact ⟨_, rfl, a⟩
  | _ :: _, _, i + 1, d, h, e => by
    cases h with
    | cons a b =>
      obtain ⟨v, h1, h2⟩ := dpa_get' b (by simpa using e)
      exact ⟨v, by simpa using h1, h2⟩
theorem dpa_app {H : Hp} : ∀ {ds es : List PyData} {vs ws : List V}, DqAll H vs ds → DqAll H ws es → DqAll H (vs ++ ws) (ds ++ es)
  | [], _, _, _, h, h' => by cases h; exact h'
  | _ :: _, _, _, _, h, h' => by
    cases h with
    | cons a b => exact .cons a (dpa_app b h')
theorem dpa_take {H : Hp} : ∀ {ds : List PyData} {vs : List V} (n : Nat), DqAll H vs ds → DqAll H (vs.take n) (ds.take n)
  | [], _, n, h => by cases h; simp; exact .nil
  | _ :: _, _, 0, h => by simp; exact .nil
  | _ :: _, _, n + 1, h => by
    cases h with
    | cons a b => simpa using DqAll.cons a (dpa_take n b)
theorem dpa_drop {H : Hp} : ∀ {ds : List PyData} {vs : List V} (n : Nat), DqAll H vs ds → DqAll H (vs.drop n) (ds.drop n)
  | [], _, n, h => by cases h; simp; exact .nil
  | _ :: _, _, 0, h => h
  | _ :: _, _, n + 1, h => by
    cases h with
    | cons a b => simpa using dpa_drop n b
theorem dpa_set {H : Hp} {v : V} {d : PyData} (hv : Dq H v d) : ∀ {ds : List PyData} {vs : List V} (n : Nat), DqAll H vs ds → DqAll H (vs.set n v) (ds.set n d)
  | [], _, n, h => by cases h; simp; exact .nil
  | _ :: _, _, 0, h => by
    cases h with
    | cons a b => exact .cons hv b
  | _ :: _, _, n + 1, h => by
    cases h with
    | cons a b => exact .cons a (dpa_set hv n b)
theorem dpa_rep {H : Hp} {ds : List PyData} {vs : List V} (h : DqAll H vs ds) : ∀ n : Nat, DqAll H (List.replicate n vs).flatten (List.replicate n ds).flatten
  | 0 => .nil
  | n + 1 => by
    rw [List.replicate_succ, List.replicate_succ, List.flatten_cons, List.flatten_cons]
    exact dpa_app h (dpa_rep h n)
theorem dpa_atI {H : Hp} {ds : List PyData} {vs : List V} {i : Int} {d : PyData} (h : DqAll H vs ds) (e : atI ds i = some d) : ∃ v, atI vs i = some v ∧ Dq H v d := by
  unfold atI at e ⊢
  rw [dpa_len h]
  cases q : ixN ds.length i with
  | none => rw [q] at e; cases e
  | some j =>
    rw [q] at e
    exact dpa_get h e
def cutA {α : Type} (xs : List α) (lo hi : Option Int) : List α := (xs.drop (HT.sIx xs.length 0 lo)).take (HT.sIx xs.length xs.length hi - HT.sIx xs.length 0 lo)
theorem dpa_cut {H : Hp} {ds : List PyData} {vs : List V} (lo hi : Option Int) (h : DqAll H vs ds) : DqAll H (cutV vs lo hi) (cutA ds lo hi) := by
  unfold cutV cutA
  rw [dpa_len h]
  exact dpa_take _ (dpa_drop _ h)
/-- a parameter's list that is only read: its items are data, itself it is no datum -/
def tokD (ds : List PyData) : PyData := .dict [(.list ds, .bool true)]
def tokOf : PyData → Option (List PyData)
  | .dict [(.list ds, .bool true)] => some ds
  | _ => none
def SlotOk (B R : Hp) (v : V) (d : PyData) : Prop := (Dq R v d ∧ tokOf d = none) ∨ ∃ a vs ds, d = tokD ds ∧ v = .ref a ∧ Rq B a (.lst vs) ∧ DqAll R vs ds
theorem tok_of_dq {R : Hp} {v : V} {d : PyData} (h : Dq R v d) : tokOf d = none := by
  cases h <;> rfl
theorem SlotOk.of {B R : Hp} {v : V} {d : PyData} (h : Dq R v d) : SlotOk B R v d := .inl ⟨h, tok_of_dq h⟩
theorem SlotOk.dq {B R : Hp} {v : V} {d : PyData} (h : SlotOk B R v d) (n : tokOf d = none) : Dq R v d := by
  rcases h with h | ⟨a, vs, ds, rfl, _⟩
  · exact h.1
  · cases n
theorem SlotOk.tok {B R : Hp} {v : V} {d : PyData} {ds : List PyData} (h : SlotOk B R v d) (n : tokOf d = some ds) : ∃ a vs, v = .ref a ∧ Rq B a (.lst vs) ∧ DqAll R vs ds := by
  rcases h with h | ⟨a, vs, es, rfl, h1, h2, h3⟩
  · rw [h.2] at n
    cases n
  · cases n
    exact ⟨a, vs, h1, h2, h3⟩
theorem SlotOk.mono {B R R' : Hp} {v : V} {d : PyData} (e : Ex R R') (h : SlotOk B R v d) : SlotOk B R' v d := by
  rcases h with h | ⟨a, vs, ds, h0, h1, h2, h3⟩
  · exact .inl ⟨dp_mono e h.1, h.2⟩
  · exact .inr ⟨a, vs, ds, h0, h1, h2, dpa_mono e h3⟩
theorem dpa_ints {H : Hp} : ∀ {ns : List Int} {vs : List V}, DqAll H vs (ns.map PyData.int) → vs = ns.map V.int
  | [], _, h => by cases h; rfl
  | _ :: _, _, h => by
    cases h with
    | cons a b =>
      cases a
      rw [dpa_ints b]
      rfl
theorem dpa_bls {H : Hp} : ∀ {ns : List Bool} {vs : List V}, DqAll H vs (ns.map PyData.bool) → vs = ns.map V.bl
  | [], _, h => by cases h; rfl
  | _ :: _, _, h => by
    cases h with
    | cons a b =>
      cases a
      rw [dpa_bls b]
      rfl
theorem dpa_of_ints {H : Hp} : ∀ (ns : List Int), DqAll H (ns.map V.int) (ns.map PyData.int)
  | [] => .nil
  | _ :: r => .cons (.int _) (dpa_of_ints r)

/-! the state of a body: the names' values as data; owned ones are lists that no other name reaches -/
structure SRel (B H0 R0 R H : Hp) (σ : L2.St) (env : En) : Prop where
  rh : Ex R H
  r0 : Ex R0 R
  h0 : Ex H0 H
  bb : Ex B H0
  new : ∀ b o, R b = some o → R0 b = none → H0 b = none
  slot : ∀ (i : Nat) (d : PyData), env[i]? = some (some (d, false)) → ∃ v, σ[i]? = some (some v) ∧ SlotOk B R v d
  own : ∀ (i : Nat) (d : PyData), env[i]? = some (some (d, true)) → ∃ a vs ds, d = .list ds ∧ σ[i]? = some (some (.ref a)) ∧ H a = some (.lst vs) ∧ R a = none ∧ H0 a = none ∧ DqAll R vs ds
  dis : ∀ (i j : Nat) (d e : PyData) (a : Addr), i ≠ j → env[i]? = some (some (d, true)) → env[j]? = some (some (e, true)) → σ[i]? = some (some (.ref a)) → σ[j]? = some (some (.ref a)) → False
  len : σ.length = env.length

/-- the address is none of an owned name -/
def Apart (σ : L2.St) (env : En) (a : Addr) : Prop := ∀ (i : Nat) (d : PyData), env[i]? = some (some (d, true)) → σ[i]? = some (some (.ref a)) → False

def Res (H0 R H : Hp) (σ : L2.St) (env : En) (v : V) (d : PyData) : Bool → Prop
  | true => ∃ a vs ds, v = .ref a ∧ d = .list ds ∧ H a = some (.lst vs) ∧ R a = none ∧ H0 a = none ∧ DqAll R vs ds ∧ Apart σ env a
  | false => Dq R v d

/-- the top of the value can be read, its items are shared -/
def Top (R H : Hp) (v : V) (d : PyData) : Prop :=
  (∃ a vs ds, v = .ref a ∧ d = .list ds ∧ Rq H a (.lst vs) ∧ DqAll R vs ds) ∨ ((∀ ds, d ≠ .list ds) ∧ Dq R v d)

variable {B H0 R0 R R' H H' : Hp} {σ : L2.St} {env env' : En} {v : V} {d : PyData}

theorem top_of_dp (e : Ex R H) (h : Dq R v d) : Top R H v d := by
  cases d with
  | list ds =>
    cases h with
    | lst a b => exact .inl ⟨_, _, _, rfl, rfl, ex_rq e a, b⟩
  | none => exact .inr ⟨fun _ z => (nomatch z), h⟩
  | bool _ => exact .inr ⟨fun _ z => (nomatch z), h⟩
  | int _ => exact .inr ⟨fun _ z => (nomatch z), h⟩
  | str _ => exact .inr ⟨fun _ z => (nomatch z), h⟩
  | tuple _ => exact .inr ⟨fun _ z => (nomatch z), h⟩
  | dict _ => exact .inr ⟨fun _ z => (nomatch z), h⟩
theorem top_mono (a : Ex R R') (b : Ex H H') (h : Top R H v d) : Top R' H' v d := by
  rcases h with ⟨p, vs, ds, e1, e2, h1, h2⟩ | ⟨e, h⟩
  · exact .inl ⟨p, vs, ds, e1, e2, ex_rq b h1, dpa_mono a h2⟩
  · exact .inr ⟨e, dp_mono a h⟩
theorem top_dp (e : Ex R H) (h : Top R H v d) : Dq H v d := by
  rcases h with ⟨p, vs, ds, rfl, rfl, h1, h2⟩ | ⟨_, h⟩
  · exact .lst h1 (dpa_mono e h2)
  · exact dp_mono e h
theorem top_list {ds : List PyData} (h : Top R H v (.list ds)) : ∃ a vs, v = .ref a ∧ Rq H a (.lst vs) ∧ DqAll R vs ds := by
  rcases h with ⟨p, vs, es, rfl, e, h1, h2⟩ | ⟨e, h⟩
  · cases e
    exact ⟨p, vs, rfl, h1, h2⟩
  · exact absurd rfl (e ds)
theorem top_flat (hd : ∀ ds, d ≠ .list ds) (h : Top R H v d) : Dq R v d := by
  rcases h with ⟨p, vs, es, rfl, e, h1, h2⟩ | ⟨e, h⟩
  · exact absurd e (hd es)
  · exact h
theorem top_int {i : Int} (h : Top R H v (.int i)) : v = .int i := by
  have q := top_flat (by intro _ z; cases z) h
  cases q
  rfl
theorem top_bl {i : Bool} (h : Top R H v (.bool i)) : v = .bl i := by
  have q := top_flat (by intro _ z; cases z) h
  cases q
  rfl
theorem top_non (h : Top R H v .none) : v = .non := by
  have q := top_flat (by intro _ z; cases z) h
  cases q
  rfl
theorem top_str {x : Str} (h : Top R H v (.str x)) : v = .str x := by
  have q := top_flat (by intro _ z; cases z) h
  cases q
  rfl
theorem top_tup {ds : List PyData} (e : Ex R H) (h : Top R H v (.tuple ds)) : ∃ a vs, v = .ref a ∧ Rq R a (.tup vs) ∧ DqAll R vs ds := by
  have q := top_flat (by intro _ z; cases z) h
  cases q with
  | tup a b => exact ⟨_, _, rfl, a, b⟩

theorem Res.top {fr : Bool} (S : SRel B H0 R0 R H σ env) (h : Res H0 R H σ env v d fr) : Top R H v d := by
  cases fr with
  | true =>
    obtain ⟨a, vs, ds, rfl, rfl, h1, _, _, h2, _⟩ := h
    exact .inl ⟨a, vs, ds, rfl, rfl, h1, h2⟩
  | false => exact top_of_dp S.rh h

/-- a cell that no one else reaches becomes shared -/
theorem SRel.add {a : Addr} {vs : List V} (S : SRel B H0 R0 R H σ env) (h1 : H a = some (.lst vs)) (h2 : R a = none) (h3 : H0 a = none) (ap : Apart σ env a) :
    Ex R (upd R a (.lst vs)) ∧ SRel B H0 R0 (upd R a (.lst vs)) H σ env := by
  have e : Ex R (upd R a (.lst vs)) := Ex.new h2
  refine ⟨e, fun b o q => ?_, S.r0.trans e, S.h0, S.bb, fun b o q n => ?_, fun i d q => ?_, fun i d q => ?_, S.dis, S.len⟩
  · by_cases hb : b = a
    · subst hb
      rw [upd_same] at q
      cases q
      exact h1
    · rw [upd_ne hb] at q
      exact S.rh b o q
  · by_cases hb : b = a
    · subst hb
      exact h3
    · rw [upd_ne hb] at q
      exact S.new b o q n
  · obtain ⟨v, z1, z2⟩ := S.slot i d q
    exact ⟨v, z1, z2.mono e⟩
  · obtain ⟨b, ws, ds, z1, z2, z3, z4, z5, z6⟩ := S.own i d q
    have hb : b ≠ a := fun z => ap i d q (by rw [← z]; exact z2)
    exact ⟨b, ws, ds, z1, z2, z3, by rw [upd_ne hb]; exact z4, z5, dpa_mono e z6⟩
theorem Res.share {fr : Bool} (S : SRel B H0 R0 R H σ env) (h : Res H0 R H σ env v d fr) : ∃ R', Ex R R' ∧ SRel B H0 R0 R' H σ env ∧ Dq R' v d := by
  cases fr with
  | false => exact ⟨R, Ex.refl R, S, h⟩
  | true =>
    obtain ⟨a, vs, ds, rfl, rfl, h1, h2, h3, h4, h5⟩ := h
    obtain ⟨e, S'⟩ := S.add h1 h2 h3 h5
    exact ⟨_, e, S', .lst upd_same (dpa_mono e h4)⟩
/-- an owned name is given up to be shared -/
theorem SRel.freeze {i : Nat} (S : SRel B H0 R0 R H σ env) (h : env[i]? = some (some (d, true))) : ∃ R' v, Ex R R' ∧ SRel B H0 R0 R' H σ (env.set i (some (d, false))) ∧ σ[i]? = some (some v) ∧ Dq R' v d := by
  obtain ⟨a, vs, ds, rfl, z2, z3, z4, z5, z6⟩ := S.own i d h
  have e : Ex R (upd R a (.lst vs)) := Ex.new z4
  have hi : i < env.length := (List.getElem?_eq_some_iff.mp h).1
  have dd : Dq (upd R a (.lst vs)) (.ref a) (.list ds) := .lst upd_same (dpa_mono e z6)
  refine ⟨upd R a (.lst vs), .ref a, e, ⟨fun b o q => ?_, S.r0.trans e, S.h0, S.bb, fun b o q n => ?_, fun j x q => ?_, fun j x q => ?_, fun j k x y b hjk q1 q2 q3 q4 => ?_, by rw [List.length_set]; exact S.len⟩, z2, dd⟩
  · by_cases hb : b = a
    · subst hb
      rw [upd_same] at q
      cases q
      exact z3
    · rw [upd_ne hb] at q
      exact S.rh b o q
  · by_cases hb : b = a
    · subst hb
      exact z5
    · rw [upd_ne hb] at q
      exact S.new b o q n
  · by_cases hj : j = i
    · subst hj
      rw [List.getElem?_set_self hi] at q
      cases q
      exact ⟨_, z2, .of dd⟩
    · rw [List.getElem?_set_ne (Ne.symm hj)] at q
      obtain ⟨v, y1, y2⟩ := S.slot j x q
      exact ⟨v, y1, y2.mono e⟩
  · by_cases hj : j = i
    · subst hj
      rw [List.getElem?_set_self hi] at q
      cases q
    · rw [List.getElem?_set_ne (Ne.symm hj)] at q
      obtain ⟨b, ws, es, y1, y2, y3, y4, y5, y6⟩ := S.own j x q
      have hb : b ≠ a := fun z => S.dis j i x (.list ds) a hj q h (by rw [← z]; exact y2) z2
      exact ⟨b, ws, es, y1, y2, y3, by rw [upd_ne hb]; exact y4, y5, dpa_mono e y6⟩
  · have old : ∀ (j : Nat) (x : PyData), (env.set i (some (PyData.list ds, false)))[j]? = some (some (x, true)) → env[j]? = some (some (x, true)) := fun j x q => by
      by_cases hj : j = i
      · subst hj
        rw [List.getElem?_set_self hi] at q
        cases q
      · rw [List.getElem?_set_ne (Ne.symm hj)] at q
        exact q
    exact S.dis j k x y b hjk (old j x q1) (old k y q2) q3 q4
/-- the heap grows -/
theorem SRel.grow (S : SRel B H0 R0 R H σ env) (e : Ex H H') : SRel B H0 R0 R H' σ env :=
  ⟨S.rh.trans e, S.r0, S.h0.trans e, S.bb, S.new, S.slot, fun i d q => by
    obtain ⟨b, ws, ds, z1, z2, z3, z4, z5, z6⟩ := S.own i d q
    exact ⟨b, ws, ds, z1, z2, e b _ z3, z4, z5, z6⟩, S.dis, S.len⟩
/-- the shared part grows by new objects -/
theorem SRel.growR (S : SRel B H0 R0 R H σ env) (e : Ex H H') (e1 : Ex R R') (e2 : Ex R' H') (n : ∀ b o, R' b = some o → R b = none → H b = none) : SRel B H0 R0 R' H' σ env := by
  refine ⟨e2, S.r0.trans e1, S.h0.trans e, S.bb, fun b o q z => ?_, fun i d q => ?_, fun i d q => ?_, S.dis, S.len⟩
  · cases hb : R b with
    | some u => exact S.new b u hb z
    | none => exact fresh_back S.h0 (n b o q hb)
  · obtain ⟨v, y1, y2⟩ := S.slot i d q
    exact ⟨v, y1, y2.mono e1⟩
  · obtain ⟨b, ws, ds, z1, z2, z3, z4, z5, z6⟩ := S.own i d q
    refine ⟨b, ws, ds, z1, z2, e b _ z3, ?_, z5, dpa_mono e1 z6⟩
    cases h : R' b with
    | none => rfl
    | some u =>
      have := n b u h z4
      rw [z3] at this
      cases this
/-- a cell that is no one's is written -/
theorem SRel.other {a : Addr} {o : HO} (S : SRel B H0 R0 R H σ env) (h2 : R a = none) (h3 : H0 a = none) (ap : Apart σ env a) : SRel B H0 R0 R (upd H a o) σ env :=
  ⟨fun b u q => by
    rw [upd_ne (ne_of_none q h2)]
    exact S.rh b u q, S.r0, fun b u q => by
    rw [upd_ne (ne_of_none q h3)]
    exact S.h0 b u q, S.bb, S.new, S.slot, fun i d q => by
    obtain ⟨b, ws, ds, z1, z2, z3, z4, z5, z6⟩ := S.own i d q
    have hb : b ≠ a := fun z => ap i d q (by rw [← z]; exact z2)
    exact ⟨b, ws, ds, z1, z2, by rw [upd_ne hb]; exact z3, z4, z5, z6⟩, S.dis, S.len⟩
theorem SRel.fresh {a : Addr} (S : SRel B H0 R0 R H σ env) (h : H a = none) : R a = none ∧ H0 a = none ∧ Apart σ env a := by
  refine ⟨fresh_back S.rh h, fresh_back S.h0 h, fun i d q z => ?_⟩
  obtain ⟨b, ws, ds, z1, z2, z3, z4, z5, z6⟩ := S.own i d q
  rw [z2] at z
  cases z
  rw [h] at z3
  cases z3
/-- a slot is set to a shared value -/
theorem SRel.setS {i : Nat} (S : SRel B H0 R0 R H σ env) (h : Dq R v d) : SRel B H0 R0 R H (σ.set i (some v)) (env.set i (some (d, false))) := by
  have ln : (σ.set i (some v)).length = (env.set i (some (d, false))).length := by rw [List.length_set, List.length_set]; exact S.len
  by_cases hi : i < env.length
  · have hi' : i < σ.length := by rw [S.len]; exact hi
    refine ⟨S.rh, S.r0, S.h0, S.bb, S.new, fun j x q => ?_, fun j x q => ?_, fun j k x y b hjk q1 q2 q3 q4 => ?_, ln⟩
    · by_cases hj : j = i
      · subst hj
        rw [List.getElem?_set_self hi] at q
        cases q
        exact ⟨v, List.getElem?_set_self hi', .of h⟩
      · rw [List.getElem?_set_ne (Ne.symm hj)] at q
        rw [List.getElem?_set_ne (Ne.symm hj)]
        exact S.slot j x q
    · by_cases hj : j = i
      · subst hj
        rw [List.getElem?_set_self hi] at q
        cases q
      · rw [List.getElem?_set_ne (Ne.symm hj)] at q
        rw [List.getElem?_set_ne (Ne.symm hj)]
        exact S.own j x q
    · have hj : j ≠ i := fun z => by
        subst z
        rw [List.getElem?_set_self hi] at q1
        cases q1
      have hk : k ≠ i := fun z => by
        subst z
        rw [List.getElem?_set_self hi] at q2
        cases q2
      rw [List.getElem?_set_ne (Ne.symm hj)] at q1 q3
      rw [List.getElem?_set_ne (Ne.symm hk)] at q2 q4
      exact S.dis j k x y b hjk q1 q2 q3 q4
  · have hi' : σ.length ≤ i := by rw [S.len]; omega
    have e1 : σ.set i (some v) = σ := List.set_eq_of_length_le hi'
    have e2 : env.set i (some (d, false)) = env := List.set_eq_of_length_le (by omega)
    rw [e1, e2]
    exact S
/-- a slot is forgotten -/
theorem SRel.forget {i : Nat} (S : SRel B H0 R0 R H σ env) : SRel B H0 R0 R H σ (env.set i none) := by
  by_cases hi : i < env.length
  · have old : ∀ (j : Nat) (x : PyData × Bool), (env.set i none)[j]? = some (some x) → j ≠ i ∧ env[j]? = some (some x) := fun j x q => by
      by_cases hj : j = i
      · subst hj
        rw [List.getElem?_set_self hi] at q
        cases q
      · rw [List.getElem?_set_ne (Ne.symm hj)] at q
        exact ⟨hj, q⟩
    exact ⟨S.rh, S.r0, S.h0, S.bb, S.new, fun j x q => S.slot j x (old j _ q).2, fun j x q => S.own j x (old j _ q).2,
      fun j k x y b hjk q1 q2 q3 q4 => S.dis j k x y b hjk (old j _ q1).2 (old k _ q2).2 q3 q4, by rw [List.length_set]; exact S.len⟩
  · rw [List.set_eq_of_length_le (by omega)]
    exact S
/-- a slot is set to a fresh list -/
theorem SRel.setO {i : Nat} {a : Addr} {vs : List V} {ds : List PyData} (S : SRel B H0 R0 R H σ env) (h1 : H a = some (.lst vs)) (h2 : R a = none) (h3 : H0 a = none) (h4 : DqAll R vs ds) (ap : Apart σ env a) :
    SRel B H0 R0 R H (σ.set i (some (.ref a))) (env.set i (some (.list ds, true))) := by
  have ln : (σ.set i (some (V.ref a))).length = (env.set i (some (PyData.list ds, true))).length := by rw [List.length_set, List.length_set]; exact S.len
  by_cases hi : i < env.length
  · have hi' : i < σ.length := by rw [S.len]; exact hi
    refine ⟨S.rh, S.r0, S.h0, S.bb, S.new, fun j x q => ?_, fun j x q => ?_, fun j k x y b hjk q1 q2 q3 q4 => ?_, ln⟩
    · by_cases hj : j = i
      · subst hj
        rw [List.getElem?_set_self hi] at q
        cases q
      · rw [List.getElem?_set_ne (Ne.symm hj)] at q
        rw [List.getElem?_set_ne (Ne.symm hj)]
        exact S.slot j x q
    · by_cases hj : j = i
      · subst hj
        rw [List.getElem?_set_self hi] at q
        cases q
        exact ⟨a, vs, ds, rfl, List.getElem?_set_self hi', h1, h2, h3, h4⟩
      · rw [List.getElem?_set_ne (Ne.symm hj)] at q
        rw [List.getElem?_set_ne (Ne.symm hj)]
        exact S.own j x q
    · by_cases hj : j = i
      · subst hj
        have hk : k ≠ j := Ne.symm hjk
        rw [List.getElem?_set_self hi'] at q3
        rw [List.getElem?_set_ne (Ne.symm hk)] at q2 q4
        cases q3
        exact ap k y q2 q4
      · rw [List.getElem?_set_ne (Ne.symm hj)] at q1 q3
        by_cases hk : k = i
        · subst hk
          rw [List.getElem?_set_self hi'] at q4
          cases q4
          exact ap j x q1 q3
        · rw [List.getElem?_set_ne (Ne.symm hk)] at q2 q4
          exact S.dis j k x y b hjk q1 q2 q3 q4
  · have hi' : σ.length ≤ i := by rw [S.len]; omega
    rw [List.set_eq_of_length_le hi', List.set_eq_of_length_le (by omega)]
    exact S
/-- an owned list is written -/
theorem SRel.writeO {i : Nat} {a : Addr} {d : PyData} {vs : List V} {ds : List PyData} (S : SRel B H0 R0 R H σ env) (h : env[i]? = some (some (d, true))) (hs : σ[i]? = some (some (.ref a))) (h4 : DqAll R vs ds) :
    SRel B H0 R0 R (upd H a (.lst vs)) σ (env.set i (some (.list ds, true))) := by
  obtain ⟨b, ws, es, rfl, z2, z3, z4, z5, z6⟩ := S.own i d h
  rw [hs] at z2
  cases z2
  have hi : i < env.length := (List.getElem?_eq_some_iff.mp h).1
  refine ⟨fun c u q => ?_, S.r0, fun c u q => ?_, S.bb, S.new, fun j x q => ?_, fun j x q => ?_, fun j k x y c hjk q1 q2 q3 q4 => ?_, by rw [List.length_set]; exact S.len⟩
  · rw [upd_ne (ne_of_none q z4)]
    exact S.rh c u q
  · rw [upd_ne (ne_of_none q z5)]
    exact S.h0 c u q
  · by_cases hj : j = i
    · subst hj
      rw [List.getElem?_set_self hi] at q
      cases q
    · rw [List.getElem?_set_ne (Ne.symm hj)] at q
      exact S.slot j x q
  · by_cases hj : j = i
    · subst hj
      rw [List.getElem?_set_self hi] at q
      cases q
      exact ⟨a, vs, ds, rfl, hs, upd_same, z4, z5, h4⟩
    · rw [List.getElem?_set_ne (Ne.symm hj)] at q
      obtain ⟨c, us, fs, y1, y2, y3, y4, y5, y6⟩ := S.own j x q
      have hc : c ≠ a := fun z => S.dis j i x (.list es) a hj q h (by rw [← z]; exact y2) hs
      exact ⟨c, us, fs, y1, y2, by rw [upd_ne hc]; exact y3, y4, y5, y6⟩
  · have old : ∀ (j : Nat) (x : PyData), (env.set i (some (PyData.list ds, true)))[j]? = some (some (x, true)) → ∃ x', env[j]? = some (some (x', true)) := fun j x q => by
      by_cases hj : j = i
      · subst hj
        exact ⟨_, h⟩
      · rw [List.getElem?_set_ne (Ne.symm hj)] at q
        exact ⟨x, q⟩
    obtain ⟨x', q1⟩ := old j x q1
    obtain ⟨y', q2⟩ := old k y q2
    exact S.dis j k x' y' c hjk q1 q2 q3 q4
end
end Fw
namespace Fw
open PySem PySem.Spec PyProof.Rows L2 Evl

def RRes (Hb R H : Hp) (v : V) (d : PyData) : Bool → Prop
  | true => ∃ a vs ds, v = .ref a ∧ d = .list ds ∧ H a = some (.lst vs) ∧ R a = none ∧ Hb a = none ∧ DqAll R vs ds
  | false => Dq R v d
/-- what is wanted behind a pure step that gives d -/
def Cont (R H : Hp) (d : PyData) (fr : Bool) (Q : VK) : Prop :=
  ∀ v R' H', Ex R R' → Ex H H' → Ex R' H' → (∀ b o, R' b = some o → R b = none → H b = none) → RRes H R' H' v d fr → Q v H'
abbrev EF := En → Option (PyData × Bool × En)
abbrev WF := En → Option (PyData × En)
abbrev TF := En → Option (Bool × En)
abbrev AF := En → Option (List PyData × En)

def tE (f : EF) : TE := fun σ H Q => ∃ B H0 R0 R env d fr env', SRel B H0 R0 R H σ env ∧ f env = some (d, fr, env') ∧
  ∀ v R' H', SRel B H0 R0 R' H' σ env' → Ex R R' → Ex H H' → Res H0 R' H' σ env' v d fr → Q v H'
def tW (f : WF) : TE := fun σ H Q => ∃ B H0 R0 R env d env', SRel B H0 R0 R H σ env ∧ f env = some (d, env') ∧
  ∀ v R' H', SRel B H0 R0 R' H' σ env' → Ex R R' → Ex H H' → Top R' H' v d → Q v H'
def tT (f : TF) : TT := fun σ H Q => ∃ B H0 R0 R env b env', SRel B H0 R0 R H σ env ∧ f env = some (b, env') ∧
  ∀ R' H', SRel B H0 R0 R' H' σ env' → Ex R R' → Ex H H' → Q b H'
def tA (f : AF) : TA := fun σ H Q => ∃ B H0 R0 R env ds env', SRel B H0 R0 R H σ env ∧ f env = some (ds, env') ∧
  ∀ vs R' H', SRel B H0 R0 R' H' σ env' → Ex R R' → Ex H H' → DqAll R' vs ds → Q vs H'
inductive TopAll (R H : Hp) : List V → List PyData → Prop
  | nil : TopAll R H [] []
  | cons {v d vs ds} : Top R H v d → TopAll R H vs ds → TopAll R H (v :: vs) (d :: ds)
/-- arguments, borrowed -/
def tB (f : AF) : TA := fun σ H Q => ∃ B H0 R0 R env ds env', SRel B H0 R0 R H σ env ∧ f env = some (ds, env') ∧
  ∀ vs R' H', SRel B H0 R0 R' H' σ env' → Ex R R' → Ex H H' → TopAll R' H' vs ds → Q vs H'

section
variable {B H0 R0 R R' H H' : Hp} {σ : L2.St} {env env' : En} {v : V} {d : PyData} {fr : Bool} {Q : VK}

theorem Cont.now (e : Ex R H) (h : Cont R H d false Q) (p : Dq R v d) : Q v H := h v R H (Ex.refl R) (Ex.refl H) e (fun b o q n => by rw [n] at q; cases q) p
theorem Cont.nowL {p : Addr} {vs : List V} {ds : List PyData} (e : Ex R H) (h : Cont R H (.list ds) true Q) (hp : H p = none) (hd : DqAll R vs ds) : Q (.ref p) (upd H p (.lst vs)) := by
  refine h _ R _ (Ex.refl R) (Ex.new hp) (e.trans (Ex.new hp)) (fun b o q n => by rw [n] at q; cases q) ?_
  exact ⟨p, vs, ds, rfl, rfl, upd_same, fresh_back e hp, hp, hd⟩
theorem Cont.nowT {p : Addr} {vs : List V} {ds : List PyData} (e : Ex R H) (h : Cont R H (.tuple ds) false Q) (hp : H p = none) (hd : DqAll R vs ds) : Q (.ref p) (upd H p (.tup vs)) := by
  have hr : R p = none := fresh_back e hp
  refine h _ (upd R p (.tup vs)) _ (Ex.new hr) (Ex.new hp) (fun b o q => ?_) (fun b o q n => ?_) ?_
  · by_cases hb : b = p
    · subst hb
      rw [upd_same] at q ⊢
      exact q
    · rw [upd_ne hb] at q ⊢
      exact e b o q
  · by_cases hb : b = p
    · subst hb
      exact hp
    · rw [upd_ne hb, n] at q
      cases q
  · exact .tup upd_same (dpa_mono (Ex.new hr) hd)
theorem Res.of (S : SRel B H0 R0 R H σ env) (S' : SRel B H0 R0 R' H' σ env) (h : RRes H R' H' v d fr) : Res H0 R' H' σ env v d fr := by
  cases fr with
  | false => exact h
  | true =>
    obtain ⟨a, vs, ds, e1, e2, h1, h2, h3, h4⟩ := h
    obtain ⟨f1, f2, f3⟩ := S.fresh h3
    exact ⟨a, vs, ds, e1, e2, h1, h2, f2, h4, f3⟩
/-- the end of a rule: what the caller wants is what a pure step is to reach -/
theorem SRel.cont (S : SRel B H0 R0 R H σ env) (h : ∀ v R' H', SRel B H0 R0 R' H' σ env → Ex R R' → Ex H H' → Res H0 R' H' σ env v d fr → Q v H') : Cont R H d fr Q :=
  fun v R' H' e1 e2 e3 n r => h v R' H' (S.growR e2 e1 e3 n) e1 e2 (Res.of S (S.growR e2 e1 e3 n) r)
theorem TopAll.mono (a : Ex R R') (b : Ex H H') : ∀ {vs : List V} {ds : List PyData}, TopAll R H vs ds → TopAll R' H' vs ds
  | _, _, .nil => .nil
  | _, _, .cons p q => .cons (top_mono a b p) (TopAll.mono a b q)
end

section
variable {X : Cx} {a b e : Expr} {pos : Pos} {fa fb : WF} {f : EF}

theorem _root_.L2.PE.imp {t t' : TE} (h : PE X e t) (i : ∀ σ H Q, t' σ H Q → t σ H Q) : PE X e t' := ⟨fun pins s σ H Q I q => h.run pins s σ H Q I (i σ H Q q)⟩
theorem _root_.L2.PT.imp {t t' : TT} (h : PT X e t) (i : ∀ σ H Q, t' σ H Q → t σ H Q) : PT X e t' := ⟨fun pins s σ H Q I q => h.run pins s σ H Q I (i σ H Q q)⟩
theorem _root_.L2.PA.imp {es : List Expr} {t t' : TA} (h : PA X es t) (i : ∀ σ H Q, t' σ H Q → t σ H Q) : PA X es t' := ⟨fun pos pins s σ H Q I q => h.run pos pins s σ H Q I (i σ H Q q)⟩
theorem _root_.L2.PS.imp {st : Stmt} {t t' : TS} (h : PS X st t) (i : ∀ D σ H, t' D σ H → t D σ H) : PS X st t' := ⟨fun pins s σ H D I q => h.run pins s σ H D I (i D σ H q)⟩
theorem _root_.L2.PSs.imp {st : List Stmt} {t t' : TS} (h : PSs X st t) (i : ∀ D σ H, t' D σ H → t D σ H) : PSs X st t' := ⟨fun pins s σ H D I q => h.run pins s σ H D I (i D σ H q)⟩

def wOf (f : EF) : WF := fun env => (f env).map fun r => (r.1, r.2.2)
theorem qw_of (h : PE X e (tE f)) : PE X e (tW (wOf f)) := h.imp fun σ H Q q => by
  obtain ⟨B, H0, R0, R, env, d, env', S, hf, k⟩ := q
  unfold wOf at hf
  cases hq : f env with
  | none => rw [hq] at hf; cases hf
  | some r =>
    obtain ⟨d', fr, e'⟩ := r
    rw [hq] at hf
    cases hf
    exact ⟨B, H0, R0, R, env, _, fr, _, S, hq, fun v R' H' S' e1 e2 r => k v R' H' S' e1 e2 (r.top S')⟩

/-! names, constants -/
def wVar (i : Nat) : WF := fun env => match env[i]? with
  | some (some (d, _)) => (match tokOf d with
    | some ds => some (.list ds, env)
    | none => some (d, env))
  | _ => none
def eVar (i : Nat) : EF := fun env => match env[i]? with
  | some (some (d, o)) => (match tokOf d with
    | some _ => none
    | none => (match o with
      | false => some (d, false, env)
      | true => some (d, false, env.set i (some (d, false)))))
  | _ => none
def eMv (i : Nat) : EF := fun env => match env[i]? with
  | some (some (d, o)) => (match tokOf d with
    | some _ => none
    | none => some (d, o, env.set i none))
  | _ => none
theorem qw_var {x : Str} (i : Nat) (h : PE X (.Name x pos) (tVar i)) : PE X (.Name x pos) (tW (wVar i)) := h.imp fun σ H Q q => by
  obtain ⟨B, H0, R0, R, env, d, env', S, hf, k⟩ := q
  unfold wVar at hf
  split at hf
  · rename_i d' o hq
    split at hf
    · rename_i ds ht
      cases hf
      cases o with
      | false =>
        obtain ⟨v, h1, h2⟩ := S.slot i _ hq
        obtain ⟨a, vs, rfl, h3, h4⟩ := h2.tok ht
        exact ⟨_, h1, k _ R H S (Ex.refl R) (Ex.refl H) (.inl ⟨a, vs, ds, rfl, rfl, ex_rq (S.bb.trans S.h0) h3, h4⟩)⟩
      | true =>
        obtain ⟨a, vs, ds, rfl, h1, h2, h3, h4, h5⟩ := S.own i _ hq
        cases ht
    · rename_i ht
      cases hf
      cases o with
      | false =>
        obtain ⟨v, h1, h2⟩ := S.slot i _ hq
        exact ⟨v, h1, k v R H S (Ex.refl R) (Ex.refl H) (top_of_dp S.rh (h2.dq ht))⟩
      | true =>
        obtain ⟨a, vs, ds, rfl, h1, h2, h3, h4, h5⟩ := S.own i _ hq
        exact ⟨_, h1, k _ R H S (Ex.refl R) (Ex.refl H) (.inl ⟨a, vs, ds, rfl, rfl, h2, h5⟩)⟩
  · cases hf
theorem qe_var {x : Str} (i : Nat) (h : PE X (.Name x pos) (tVar i)) : PE X (.Name x pos) (tE (eVar i)) := h.imp fun σ H Q q => by
  obtain ⟨B, H0, R0, R, env, d, fr, env', S, hf, k⟩ := q
  unfold eVar at hf
  split at hf
  · rename_i d' o hq
    split at hf
    · cases hf
    · rename_i ht
      cases o with
      | false =>
        cases hf
        obtain ⟨v, h1, h2⟩ := S.slot i _ hq
        exact ⟨v, h1, k v R H S (Ex.refl R) (Ex.refl H) (h2.dq ht)⟩
      | true =>
        cases hf
        obtain ⟨R', v, e, S', h1, h2⟩ := S.freeze hq
        exact ⟨v, h1, k v R' H S' e (Ex.refl H) h2⟩
  · cases hf
theorem qe_mv {x : Str} (i : Nat) (h : PE X (.Name x pos) (tVar i)) : PE X (.Name x pos) (tE (eMv i)) := h.imp fun σ H Q q => by
  obtain ⟨B, H0, R0, R, env, d, fr, env', S, hf, k⟩ := q
  unfold eMv at hf
  split at hf
  · rename_i d' o hq
    split at hf
    · cases hf
    · rename_i ht
      cases hf
      have S' := S.forget (i := i)
      have hi : i < env.length := (List.getElem?_eq_some_iff.mp hq).1
      cases fr with
      | false =>
        obtain ⟨v, h1, h2⟩ := S.slot i _ hq
        exact ⟨v, h1, k v R H S' (Ex.refl R) (Ex.refl H) (h2.dq ht)⟩
      | true =>
        obtain ⟨a, vs, ds, rfl, h1, h2, h3, h4, h5⟩ := S.own i _ hq
        refine ⟨_, h1, k _ R H S' (Ex.refl R) (Ex.refl H) ⟨a, vs, ds, rfl, rfl, h2, h3, h4, h5, fun j x q1 q2 => ?_⟩⟩
        by_cases hj : j = i
        · subst hj
          rw [List.getElem?_set_self hi] at q1
          cases q1
        · rw [List.getElem?_set_ne (Ne.symm hj)] at q1
          exact S.dis j i x _ a hj q1 hq q2 h1
  · cases hf
def eC (d : PyData) : EF := fun env => some (d, false, env)
theorem tE_const {v : V} {d : PyData} (hd : ∀ R, Dq R v d) {t : TE} (h : PE X e t) (ht : ∀ σ H Q, Q v H → t σ H Q) : PE X e (tE (eC d)) := h.imp fun σ H Q q => by
  obtain ⟨B, H0, R0, R, env, d', fr, env', S, hf, k⟩ := q
  cases hf
  exact ht σ H Q (k v R H S (Ex.refl R) (Ex.refl H) (hd _))
theorem qe_int {i : Int} {j : Nat} : PE X (.Constant (.int i) j pos) (tE (eC (.int i))) := tE_const (fun _ => .int i) pe_int fun _ _ _ q => q
theorem qe_bl {i : Bool} {j : Nat} : PE X (.Constant (.bool i) j pos) (tE (eC (.bool i))) := tE_const (fun _ => .bl i) pe_bl fun _ _ _ q => q
theorem qe_non {j : Nat} : PE X (.Constant .none j pos) (tE (eC .none)) := tE_const (fun _ => .non) pe_non fun _ _ _ q => q
theorem qe_str {x : Str} {j : Nat} : PE X (.Constant (.str x) j pos) (tE (eC (.str x))) := tE_const (fun _ => .str x) pe_str fun _ _ _ q => q
/-- a module's whole number -/
theorem qe_gint {x : Str} {i : Int} {t : Tok} (hg : Gl X x) (hm : X.mg x = some (.int i t)) (hd : (x == ("__debug__" : Str)) = false := by decide) : PE X (.Name x pos) (tE (eC (.int i))) :=
  tE_const (fun _ => .int i) (pe_glob (v := .int i) hg hm ⟨t, rfl⟩ hd) fun _ _ _ q => q

/-! two-place operations by values -/
def OpD (r : R2) (g : PyData → PyData → Option (PyData × Bool)) : Prop :=
  ∀ (R H : Hp) (x y : V) (dx dy d : PyData) (fr : Bool) (Q : VK), Ex R H → Top R H x dx → Top R H y dy → g dx dy = some (d, fr) → Cont R H d fr Q → r x y H Q
def eBin (g : PyData → PyData → Option (PyData × Bool)) (fa fb : WF) : EF := fun env => match fa env with
  | none => none
  | some (x, e1) => match fb e1 with
    | none => none
    | some (y, e2) => match g x y with
      | none => none
      | some (d, fr) => some (d, fr, e2)
theorem bin_ok {r : R2} {g : PyData → PyData → Option (PyData × Bool)} (hg : OpD r g) {σ : L2.St} {H : Hp} {Q : VK} (q : tE (eBin g fa fb) σ H Q) : tOp r (tW fa) (tW fb) σ H Q := by
  obtain ⟨B, H0, R0, R, env, d, fr, env', S, hf, k⟩ := q
  unfold eBin at hf
  split at hf
  · cases hf
  · rename_i x e1 h1
    split at hf
    · cases hf
    · rename_i y e2 h2
      split at hf
      · cases hf
      · rename_i d' fr' h3
        cases hf
        refine ⟨B, H0, R0, R, env, x, e1, S, h1, fun u R1 H1 S1 i1 j1 t1 => ?_⟩
        refine ⟨B, H0, R0, R1, e1, y, _, S1, h2, fun w R2 H2 S2 i2 j2 t2 => ?_⟩
        refine hg R2 H2 u w x y _ _ Q S2.rh (top_mono i2 j2 t1) t2 h3 (S2.cont fun v R' H' S' e1 e2 r => ?_)
        exact k v R' H' S' ((i1.trans i2).trans e1) ((j1.trans j2).trans e2) r
theorem qe_bin {op : Operator} {r : R2} {g : PyData → PyData → Option (PyData × Bool)} (ho : OpR X (binaryOp op) r) (hg : OpD r g) (ha : PE X a (tW fa)) (hb : PE X b (tW fb)) : PE X (.BinOp a op b pos) (tE (eBin g fa fb)) :=
  (pe_op ho ha hb).imp fun σ H Q q => bin_ok hg q
theorem qe_cmp {op : CmpOp} {r : R2} {g : PyData → PyData → Option (PyData × Bool)} (ho : OpR X (compareOp op) r) (hg : OpD r g) (hm : behindInMarks op b = false) (ha : PE X a (tW fa)) (hb : PE X b (tW fb)) : PE X (.Compare a [op] [b] pos) (tE (eBin g fa fb)) :=
  (pe_cmpR ho ha hb hm).imp fun σ H Q q => bin_ok hg q
theorem qe_ix {r : R2} {g : PyData → PyData → Option (PyData × Bool)} (hr : IxR X r) (hg : OpD r g) (hs : PlainIx b) (ha : PE X a (tW fa)) (hb : PE X b (tW fb)) : PE X (.Subscript a b pos) (tE (eBin g fa fb)) :=
  (pe_ix hr ha hb hs).imp fun σ H Q q => bin_ok hg q
/-! tests -/
def tstE (f : EF) : TF := fun env => match f env with
  | some (.bool b, _, e1) => some (b, e1)
  | _ => none
theorem tst_ok {σ : L2.St} {H : Hp} {Q : Bool → Hp → Prop} (q : tT (tstE f) σ H Q) : tE f σ H fun x H' => ∃ k, x = .bl k ∧ Q k H' := by
  obtain ⟨B, H0, R0, R, env, b, env', S, hf, k⟩ := q
  unfold tstE at hf
  split at hf
  · rename_i b' fr e1 h1
    cases hf
    refine ⟨B, H0, R0, R, env, .bool b, fr, env', S, h1, fun v R' H' S' e1 e2 r => ?_⟩
    exact ⟨b, top_bl (r.top S'), k R' H' S' e1 e2⟩
  · cases hf
theorem qt_cmp {op : CmpOp} {r : R2} {g : PyData → PyData → Option (PyData × Bool)} (ho : OpR X (compareOp op) r) (hg : OpD r g) (hm : behindInMarks op b = false) (ha : PE X a (tW fa)) (hb : PE X b (tW fb)) : PT X (.Compare a [op] [b] pos) (tT (tstE (eBin g fa fb))) :=
  (pt_cmpR ho ha hb hm).imp fun σ H Q q => bin_ok hg (tst_ok q)
theorem qt_val (h : PE X e (tE f)) (he : ∀ whole, isTrue e X.env whole = (do let v ← whole; standAt e.pos; holding [v] (truthy v)) := by intro _; rfl) : PT X e (tT (tstE f)) :=
  (pt_val h he).imp fun σ H Q q => tst_ok q
def cAnd (f g : TF) : TF := fun env => match f env with
  | none => none
  | some (true, e1) => g e1
  | some (false, e1) => some (false, e1)
def cOr (f g : TF) : TF := fun env => match f env with
  | none => none
  | some (true, e1) => some (true, e1)
  | some (false, e1) => g e1
def cNot (f : TF) : TF := fun env => match f env with
  | none => none
  | some (b, e1) => some (!b, e1)
variable {f1 f2 : TF} {rest : List Expr}
theorem _root_.L2.PW.imp {t t' : TT} (h : PW X e t) (i : ∀ σ H Q, t' σ H Q → t σ H Q) : PW X e t' := ⟨fun wh pins s σ H Q I q => h.run wh pins s σ H Q I (i σ H Q q)⟩
theorem qp_and1 (h : PT X a (tT f1)) : PW X (.BoolOp .And [a] pos) (tT f1) := pw_and1 h
theorem qp_or1 (h : PT X a (tT f1)) : PW X (.BoolOp .Or [a] pos) (tT f1) := pw_or1 h
theorem qp_and (h : PT X a (tT f1)) (h2 : PW X (.BoolOp .And (b :: rest) pos) (tT f2)) : PW X (.BoolOp .And (a :: b :: rest) pos) (tT (cAnd f1 f2)) :=
  PW.imp (pw_and h h2) fun σ H Q q => by
    obtain ⟨B, H0, R0, R, env, c, env', S, hf, k⟩ := q
    unfold cAnd at hf
    split at hf
    · cases hf
    · rename_i e1 h1
      refine ⟨B, H0, R0, R, env, true, e1, S, h1, fun R1 H1 S1 i1 j1 => ?_⟩
      refine iteT ?_
      exact ⟨B, H0, R0, R1, e1, c, env', S1, hf, fun R2 H2 S2 i2 j2 => k R2 H2 S2 (i1.trans i2) (j1.trans j2)⟩
    · rename_i e1 h1
      cases hf
      refine ⟨B, H0, R0, R, env, false, _, S, h1, fun R1 H1 S1 i1 j1 => ?_⟩
      refine iteF ?_
      exact k R1 H1 S1 i1 j1
theorem qp_or (h : PT X a (tT f1)) (h2 : PW X (.BoolOp .Or (b :: rest) pos) (tT f2)) : PW X (.BoolOp .Or (a :: b :: rest) pos) (tT (cOr f1 f2)) :=
  PW.imp (pw_or h h2) fun σ H Q q => by
    obtain ⟨B, H0, R0, R, env, c, env', S, hf, k⟩ := q
    unfold cOr at hf
    split at hf
    · cases hf
    · rename_i e1 h1
      cases hf
      refine ⟨B, H0, R0, R, env, true, _, S, h1, fun R1 H1 S1 i1 j1 => ?_⟩
      refine iteT ?_
      exact k R1 H1 S1 i1 j1
    · rename_i e1 h1
      refine ⟨B, H0, R0, R, env, false, e1, S, h1, fun R1 H1 S1 i1 j1 => ?_⟩
      refine iteF ?_
      exact ⟨B, H0, R0, R1, e1, c, env', S1, hf, fun R2 H2 S2 i2 j2 => k R2 H2 S2 (i1.trans i2) (j1.trans j2)⟩
theorem qt_pw (h : PW X e (tT f1)) : PT X e (tT f1) := h.pt
theorem qt_not (h : PT X a (tT f1)) : PT X (.UnaryOp .Not a pos) (tT (cNot f1)) := (pt_not h).imp fun σ H Q q => by
  obtain ⟨B, H0, R0, R, env, c, env', S, hf, k⟩ := q
  unfold cNot at hf
  split at hf
  · cases hf
  · rename_i b e1 h1
    cases hf
    exact ⟨B, H0, R0, R, env, b, _, S, h1, fun R1 H1 S1 i1 j1 => k R1 H1 S1 i1 j1⟩
/-! .. as values -/
def eNot (f : EF) : EF := fun env => match f env with
  | some (.bool b, _, e1) => some (.bool (!b), false, e1)
  | _ => none
def eAnd (f g : EF) : EF := fun env => match f env with
  | some (.bool true, _, e1) => g e1
  | some (.bool false, _, e1) => some (.bool false, false, e1)
  | _ => none
def eOr (f g : EF) : EF := fun env => match f env with
  | some (.bool true, _, e1) => some (.bool true, false, e1)
  | some (.bool false, _, e1) => g e1
  | _ => none
variable {g : EF}
theorem qe_one {op} (h : PE X a (tE f)) : PE X (.BoolOp op [a] pos) (tE f) := pe_one h
theorem qe_and (h : PE X a (tE f)) (h2 : PE X (.BoolOp .And (b :: rest) pos) (tE g)) : PE X (.BoolOp .And (a :: b :: rest) pos) (tE (eAnd f g)) :=
  PE.imp (pe_and h h2) fun σ H Q q => by
    obtain ⟨B, H0, R0, R, env, d, fr, env', S, hf, k⟩ := q
    unfold eAnd at hf
    split at hf
    · rename_i fr' e1 h1
      refine ⟨B, H0, R0, R, env, .bool true, fr', e1, S, h1, fun x R1 H1 S1 i1 j1 r1 => ⟨true, top_bl (r1.top S1), ?_⟩⟩
      refine iteT ?_
      exact ⟨B, H0, R0, R1, e1, d, fr, env', S1, hf, fun v R2 H2 S2 i2 j2 r2 => k v R2 H2 S2 (i1.trans i2) (j1.trans j2) r2⟩
    · rename_i fr' e1 h1
      cases hf
      refine ⟨B, H0, R0, R, env, .bool false, fr', _, S, h1, fun x R1 H1 S1 i1 j1 r1 => ⟨false, top_bl (r1.top S1), ?_⟩⟩
      refine iteF ?_
      exact k _ R1 H1 S1 i1 j1 (.bl false)
    · cases hf
theorem qe_or (h : PE X a (tE f)) (h2 : PE X (.BoolOp .Or (b :: rest) pos) (tE g)) : PE X (.BoolOp .Or (a :: b :: rest) pos) (tE (eOr f g)) :=
  PE.imp (pe_or h h2) fun σ H Q q => by
    obtain ⟨B, H0, R0, R, env, d, fr, env', S, hf, k⟩ := q
    unfold eOr at hf
    split at hf
    · rename_i fr' e1 h1
      cases hf
      refine ⟨B, H0, R0, R, env, .bool true, fr', _, S, h1, fun x R1 H1 S1 i1 j1 r1 => ⟨true, top_bl (r1.top S1), ?_⟩⟩
      refine iteT ?_
      exact k _ R1 H1 S1 i1 j1 (.bl true)
    · rename_i fr' e1 h1
      refine ⟨B, H0, R0, R, env, .bool false, fr', e1, S, h1, fun x R1 H1 S1 i1 j1 r1 => ⟨false, top_bl (r1.top S1), ?_⟩⟩
      refine iteF ?_
      exact ⟨B, H0, R0, R1, e1, d, fr, env', S1, hf, fun v R2 H2 S2 i2 j2 r2 => k v R2 H2 S2 (i1.trans i2) (j1.trans j2) r2⟩
    · cases hf
theorem qe_not (h : PE X a (tE f)) : PE X (.UnaryOp .Not a pos) (tE (eNot f)) := PE.imp (pe_not h) fun σ H Q q => by
  obtain ⟨B, H0, R0, R, env, d, fr, env', S, hf, k⟩ := q
  unfold eNot at hf
  split at hf
  · rename_i b fr' e1 h1
    cases hf
    exact ⟨B, H0, R0, R, env, .bool b, fr', _, S, h1, fun x R1 H1 S1 i1 j1 r1 => ⟨b, top_bl (r1.top S1), k _ R1 H1 S1 i1 j1 (.bl _)⟩⟩
  · cases hf
def eIf (c : TF) (f g : EF) : EF := fun env => match c env with
  | none => none
  | some (true, e1) => f e1
  | some (false, e1) => g e1
theorem qe_if {c : Expr} (hc : PT X c (tT f1)) (ha : PE X a (tE f)) (hb : PE X b (tE g)) : PE X (.IfExp c a b pos) (tE (eIf f1 f g)) :=
  PE.imp (pe_ifExp hc ha hb) fun σ H Q q => by
    obtain ⟨B, H0, R0, R, env, d, fr, env', S, hf, k⟩ := q
    unfold eIf at hf
    split at hf
    · cases hf
    · rename_i e1 h1
      refine ⟨B, H0, R0, R, env, true, e1, S, h1, fun R1 H1 S1 i1 j1 => ?_⟩
      refine iteT ?_
      exact ⟨B, H0, R0, R1, e1, d, fr, env', S1, hf, fun v R2 H2 S2 i2 j2 r2 => k v R2 H2 S2 (i1.trans i2) (j1.trans j2) r2⟩
    · rename_i e1 h1
      refine ⟨B, H0, R0, R, env, false, e1, S, h1, fun R1 H1 S1 i1 j1 => ?_⟩
      refine iteF ?_
      exact ⟨B, H0, R0, R1, e1, d, fr, env', S1, hf, fun v R2 H2 S2 i2 j2 r2 => k v R2 H2 S2 (i1.trans i2) (j1.trans j2) r2⟩
/-! a chain of two comparisons -/
def eChain (g1 g2 : PyData → PyData → Option (PyData × Bool)) (fa fb fc : WF) : EF := fun env => match fa env with
  | none => none
  | some (x, e1) => match fb e1 with
    | none => none
    | some (y, e2) => match g1 x y with
      | some (.bool true, false) => (match fc e2 with
        | none => none
        | some (z, e3) => match g2 y z with
          | some (.bool b, false) => some (.bool b, false, e3)
          | _ => none)
      | some (.bool false, false) => some (.bool false, false, e2)
      | _ => none

/-! argument lists -/
def aNil : AF := fun env => some ([], env)
def aCons (f : EF) (g : AF) : AF := fun env => match f env with
  | none => none
  | some (d, _, e1) => match g e1 with
    | none => none
    | some (ds, e2) => some (d :: ds, e2)
def bCons (f : WF) (g : AF) : AF := fun env => match f env with
  | none => none
  | some (d, e1) => match g e1 with
    | none => none
    | some (ds, e2) => some (d :: ds, e2)
variable {ga : AF} {es : List Expr}
theorem qa_nil : PA X [] (tA aNil) := PA.imp pa_nil fun σ H Q q => by
  obtain ⟨B, H0, R0, R, env, ds, env', S, hf, k⟩ := q
  cases hf
  exact k [] R H S (Ex.refl R) (Ex.refl H) .nil
theorem qa_cons (h : PE X e (tE f)) (hr : PA X es (tA ga)) (hs : starEach (e :: es) X.env = (false, eval e X.env) :: starEach es X.env := by rfl) : PA X (e :: es) (tA (aCons f ga)) :=
  PA.imp (pa_cons h hr hs) fun σ H Q q => by
    obtain ⟨B, H0, R0, R, env, ds, env', S, hf, k⟩ := q
    unfold aCons at hf
    split at hf
    · cases hf
    · rename_i d fr e1 h1
      split at hf
      · cases hf
      · rename_i ds' e2 h2
        cases hf
        refine ⟨B, H0, R0, R, env, d, fr, e1, S, h1, fun v R1 H1 S1 i1 j1 r1 => ?_⟩
        obtain ⟨R2, i2, S2, hd⟩ := r1.share S1
        exact ⟨B, H0, R0, R2, e1, ds', _, S2, h2, fun vs R3 H3 S3 i3 j3 r3 => k (v :: vs) R3 H3 S3 ((i1.trans i2).trans i3) (j1.trans j3) (.cons (dp_mono i3 hd) r3)⟩
theorem qb_nil : PA X [] (tB aNil) := PA.imp pa_nil fun σ H Q q => by
  obtain ⟨B, H0, R0, R, env, ds, env', S, hf, k⟩ := q
  cases hf
  exact k [] R H S (Ex.refl R) (Ex.refl H) .nil
theorem qb_cons (h : PE X e (tW fa)) (hr : PA X es (tB ga)) (hs : starEach (e :: es) X.env = (false, eval e X.env) :: starEach es X.env := by rfl) : PA X (e :: es) (tB (bCons fa ga)) :=
  PA.imp (pa_cons h hr hs) fun σ H Q q => by
    obtain ⟨B, H0, R0, R, env, ds, env', S, hf, k⟩ := q
    unfold bCons at hf
    split at hf
    · cases hf
    · rename_i d e1 h1
      split at hf
      · cases hf
      · rename_i ds' e2 h2
        cases hf
        refine ⟨B, H0, R0, R, env, d, e1, S, h1, fun v R1 H1 S1 i1 j1 r1 => ?_⟩
        exact ⟨B, H0, R0, R1, e1, ds', _, S1, h2, fun vs R3 H3 S3 i3 j3 r3 => k (v :: vs) R3 H3 S3 (i1.trans i3) (j1.trans j3) (.cons (top_mono i3 j3 r1) r3)⟩
/-! displays -/
def eLst (g : AF) : EF := fun env => match g env with
  | none => none
  | some (ds, e1) => if ds.length ≤ 1000 then some (.list ds, true, e1) else none
def eTup (g : AF) : EF := fun env => match g env with
  | none => none
  | some (ds, e1) => if ds.length ≤ 1000 then some (.tuple ds, false, e1) else none
theorem sz1000 {n : Nat} (h : n ≤ 1000) : n ≤ sizeLine := Nat.le_trans h (by decide)
theorem qe_lst (h : PA X es (tA ga)) : PE X (.List es pos) (tE (eLst ga)) := PE.imp (pe_lst h) fun σ H Q q => by
  obtain ⟨B, H0, R0, R, env, d, fr, env', S, hf, k⟩ := q
  unfold eLst at hf
  split at hf
  · cases hf
  · rename_i ds e1 h1
    split at hf
    · rename_i hz
      cases hf
      refine ⟨B, H0, R0, R, env, ds, _, S, h1, fun vs R1 H1 S1 i1 j1 r1 => ⟨by rw [dpa_len r1]; exact sz1000 hz, fun p hp => ?_⟩⟩
      exact Cont.nowL S1.rh (S1.cont fun v R' H' S' e1 e2 r => k v R' H' S' (i1.trans e1) (j1.trans e2) r) hp r1
    · cases hf
theorem qe_tup {x1} (h : PA X es (tA ga)) : PE X (.Tuple es x1 pos) (tE (eTup ga)) := PE.imp (pe_tup h) fun σ H Q q => by
  obtain ⟨B, H0, R0, R, env, d, fr, env', S, hf, k⟩ := q
  unfold eTup at hf
  split at hf
  · cases hf
  · rename_i ds e1 h1
    split at hf
    · rename_i hz
      cases hf
      refine ⟨B, H0, R0, R, env, ds, _, S, h1, fun vs R1 H1 S1 i1 j1 r1 => ⟨by rw [dpa_len r1]; exact sz1000 hz, fun p hp => ?_⟩⟩
      exact Cont.nowT S1.rh (S1.cont fun v R' H' S' e1 e2 r => k v R' H' S' (i1.trans e1) (j1.trans e2) r) hp r1
    · cases hf
/-! calls of built-ins by values -/
def CallD (r : List V → Hp → VK → Prop) (g : List PyData → Option (PyData × Bool)) : Prop :=
  ∀ (R H : Hp) (vs : List V) (ds : List PyData) (d : PyData) (fr : Bool) (Q : VK), Ex R H → TopAll R H vs ds → g ds = some (d, fr) → Cont R H d fr Q → r vs H Q
def eCallB (g : List PyData → Option (PyData × Bool)) (fa : AF) : EF := fun env => match fa env with
  | none => none
  | some (ds, e1) => match g ds with
    | none => none
    | some (d, fr) => some (d, fr, e1)
variable {x : Str} {p : Pos} {id T : String} {r : List V → Hp → VK → Prop} {gc : List PyData → Option (PyData × Bool)}
theorem callB_ok (hg : CallD r gc) {σ : L2.St} {H : Hp} {Q : VK} (q : tE (eCallB gc ga) σ H Q) : tCB r (tB ga) σ H Q := by
  obtain ⟨B, H0, R0, R, env, d, fr, env', S, hf, k⟩ := q
  unfold eCallB at hf
  split at hf
  · cases hf
  · rename_i ds e1 h1
    split at hf
    · cases hf
    · rename_i d' fr' h2
      cases hf
      refine ⟨B, H0, R0, R, env, ds, _, S, h1, fun vs R1 H1 S1 i1 j1 r1 => ?_⟩
      exact hg R1 H1 vs ds _ _ Q S1.rh r1 h2 (S1.cont fun v R' H' S' e1 e2 r => k v R' H' S' (i1.trans e1) (j1.trans e2) r)
theorem qe_callB (hc : CallR X (.builtin id) r) (hg : CallD r gc) (hgl : Gl X x) (hm : X.mg x = none) (hv : bootBuiltins x = some (.builtin id)) (ha : PA X (e :: es) (tB ga)) (hn : x ≠ "__name__" := by decide) (hdb : (x == ("__debug__" : Str)) = false := by decide)
    (he : starEach (e :: es) X.env = (false, eval e X.env) :: starEach es X.env := by rfl) (hpl : (backTo pos (starEach es X.env)).any (·.1) = false := by rfl) :
    PE X (.Call (.Name x p) (e :: es) [] pos) (tE (eCallB gc ga)) := PE.imp (pe_callB hc hgl hm hv ha hn hdb he hpl) fun σ H Q q => callB_ok hg q
theorem qe_callTy (hc : CallR X (.type T) r) (hg : CallD r gc) (hgl : Gl X x) (hm : X.mg x = none) (hv : bootBuiltins x = some (.type T)) (ha : PA X (e :: es) (tB ga)) (hn : x ≠ "__name__" := by decide) (hdb : (x == ("__debug__" : Str)) = false := by decide)
    (he : starEach (e :: es) X.env = (false, eval e X.env) :: starEach es X.env := by rfl) (hpl : (backTo pos (starEach es X.env)).any (·.1) = false := by rfl) :
    PE X (.Call (.Name x p) (e :: es) [] pos) (tE (eCallB gc ga)) := PE.imp (pe_callTy hc hgl hm hv ha hn hdb he hpl) fun σ H Q q => callB_ok hg q
end
end Fw
namespace Fw
open PySem PySem.Spec PyProof.Rows L2 Evl

section
variable {X : Cx}
theorem Inv.lstR {pins : List (Addr × Obj)} {σ : L2.St} {H : Hp} {s : Shared} {l : Addr} {xs : List V} (I : Inv X pins σ H s) (hH : Rq H l (.lst xs)) : xs.length ≤ sizeLine ∧ ∃ (its : List Value) (n : Nat), Vals xs its ∧ xs.length = its.length ∧ s.heap.get? l = some { cls := .type "list", data := .seq its.toArray n } := by
  obtain ⟨z, its, n, r, e⟩ := I.hok _ _ hH
  exact ⟨z, its, n, r, r.length, e⟩
def rCatQ : R2 := fun x y H Q => ∃ l b xs zs, x = .ref l ∧ y = .ref b ∧ Rq H l (.lst xs) ∧ Rq H b (.lst zs) ∧ xs.length + zs.length ≤ sizeLine ∧ ∀ p, H p = none → Q (.ref p) (upd H p (.lst (xs ++ zs)))
theorem op_catQ : OpR X (binaryOp .Add) rCatQ := by
  intro pins s σ H x y v u Q I rx ry h
  obtain ⟨l, b, xs, zs, rfl, rfl, hH, hB, hz, q⟩ := h
  cases rx
  cases ry
  obtain ⟨z, its, n, r, hl, e⟩ := Inv.lstR I hH
  obtain ⟨z2, its2, n2, r2, hl2, e2⟩ := Inv.lstR I hB
  refine PySem.P.add_list e e2 ?_ (by rw [List.size_toArray, List.size_toArray]; omega)
  have ea : its.toArray ++ its2.toArray = (its ++ its2).toArray := by simp
  rw [ea]
  exact ⟨.ref _, _, I.lnew (t' := s.toks) (r.append r2) (by rw [List.length_append]; omega), rfl, q _ I.fresh⟩
def rRepQ : R2 := fun x y H Q => ∃ l k xs, x = .ref l ∧ y = .int k ∧ Rq H l (.lst xs) ∧ -(2 ^ 63) ≤ k ∧ k < 2 ^ 63 ∧ xs.length * k.toNat ≤ sizeLine ∧
  ∀ p, H p = none → Q (.ref p) (upd H p (.lst (List.replicate k.toNat xs).flatten))
theorem op_repQ : OpR X (binaryOp .Mult) rRepQ := by
  intro pins s σ H x y v u Q I rx ry h
  obtain ⟨l, k, xs, rfl, rfl, hH, h1, h2, hz, q⟩ := h
  cases rx
  obtain ⟨t, rfl⟩ := ry
  obtain ⟨z, its, n, r, hl, e⟩ := Inv.lstR I hH
  have hlen : its.toArray.size * k.toNat ≤ sizeLine := by rw [List.size_toArray, ← hl]; exact hz
  have hcap : ¬ its.toArray.size * k.toNat > (2 ^ 63 - 1) / 8 := by
    have : (sizeLine : Nat) ≤ (2 ^ 63 - 1) / 8 := by decide
    omega
  have hfit : ¬ (!Builtin.List.listFitsIndex k) = true := by
    rw [fitsIndex_both h1 h2]
    exact Bool.false_ne_true
  have hlong : ¬ Builtin.List.listTooLong (its.toArray.size * k.toNat) = true := by
    rw [notLongL hlen]
    exact Bool.false_ne_true
  have hnew : List.foldl (fun x1 x2 => x1 ++ x2) #[] (List.replicate (if its.toArray.isEmpty = true then 0 else k.toNat) its.toArray) = (List.replicate k.toNat its).flatten.toArray := by
    have f0 : ∀ m : Nat, List.foldl (fun x1 x2 => x1 ++ x2) #[] (List.replicate m its.toArray) = (List.replicate m its).flatten.toArray := fun m => by
      have := foldl_rep its m []
      rw [List.nil_append] at this
      exact this
    rw [f0]
    cases its with
    | nil => simp
    | cons a r' => rw [if_neg (by simp)]
  refine wpAny_binaryOp_repeat_ref (T := "list") (U := "int") (by decide) ⟨_, e, rfl⟩ (fun s' => typeIs_int s' k t) noFill_list_mul F.fills_int_mul F.slot_int_rmul repeat_list F.slot_int_index.lookup
    (call_meets F.slot_int_rmul (typeIs_int s k t) F.entry_int_rmul (F.args_int_rmul_2 _ _) (int___rmul___int_list k t l its.toArray n)
      ⟨e, rfl, ⟨_, e, rfl⟩, call_meets F.slot_list_mul ⟨_, e, rfl⟩ F.entry_list_mul (F.args_list_mul_2 _ _) (AutoListH.list___mul___list_int_3 l its.toArray n k t hfit hcap hlong) ⟨e, ?_⟩⟩)
  rw [hnew]
  exact ⟨.ref _, _, I.lnew (t' := s.toks) (r.rep k.toNat) (by rw [PyProof.Rows.lm_len_rep_flat, Nat.mul_comm]; exact hz), rfl, q _ I.fresh⟩
end

/-! the operators on data -/
section
variable {K : PySem.W.Frag} {X : Cx}
def gAdd : PyData → PyData → Option (PyData × Bool)
  | .int i, .int j => some (.int (i + j), false)
  | .list a, .list b => if a.length + b.length ≤ 1000 then some (.list (a ++ b), true) else none
  | .tuple a, .tuple b => if a.length + b.length ≤ 1000 then some (.tuple (a ++ b), false) else none
  | _, _ => none
def rAddQ (K : PySem.W.Frag) : R2 := fun x y H Q => ((rI0 fun i j => .int (i + j)) x y H Q ∨ rCatQ x y H Q) ∨ rCatA K x y H Q
theorem op_addQ : OpR X (binaryOp .Add) (rAddQ X.K) := (op_add.or op_catQ).or op_catA
theorem gAdd_ok : OpD (rAddQ K) gAdd := by
  intro R H x y dx dy d fr Q e tx ty hg k
  unfold gAdd at hg
  split at hg
  · cases hg
    have e1 := top_int tx
    have e2 := top_int ty
    subst e1 e2
    exact .inl (.inl ⟨_, _, rfl, rfl, k.now e (.int _)⟩)
  · split at hg
    · rename_i hz
      cases hg
      obtain ⟨a, vs, rfl, h1, h2⟩ := top_list tx
      obtain ⟨b, ws, rfl, h3, h4⟩ := top_list ty
      refine .inl (.inr ⟨a, b, vs, ws, rfl, rfl, h1, h3, by rw [dpa_len h2, dpa_len h4]; exact sz1000 hz, fun p hp => k.nowL e hp (dpa_app h2 h4)⟩)
    · cases hg
  · split at hg
    · rename_i hz
      cases hg
      obtain ⟨a, vs, rfl, h1, h2⟩ := top_tup e tx
      obtain ⟨b, ws, rfl, h3, h4⟩ := top_tup e ty
      refine .inr ⟨a, b, vs, ws, rfl, rfl, .inl (.inl (ex_rq e h1)), .inl (.inl (ex_rq e h3)), by rw [dpa_len h2, dpa_len h4]; exact sz1000 hz, fun z => ?_, fun _ z => ?_, fun _ _ p hp => k.nowT e hp (dpa_app h2 h4)⟩
      · subst z
        have h5 := dpa_len h2
        have h6 := List.length_eq_zero_iff.mp h5.symm
        subst h6
        exact k.now e (.tup h3 h4)
      · subst z
        have h5 := dpa_len h4
        have h6 := List.length_eq_zero_iff.mp h5.symm
        subst h6
        rw [List.append_nil] at k
        exact k.now e (.tup h1 h2)
    · cases hg
  · cases hg
def gSub : PyData → PyData → Option (PyData × Bool)
  | .int i, .int j => some (.int (i - j), false)
  | _, _ => none
theorem gI0_ok {g : Int → Int → Int} {gd : PyData → PyData → Option (PyData × Bool)} (h : ∀ dx dy r, gd dx dy = some r → ∃ i j, dx = .int i ∧ dy = .int j ∧ r = (.int (g i j), false)) : OpD (rI0 fun i j => .int (g i j)) gd := by
  intro R H x y dx dy d fr Q e tx ty hg k
  obtain ⟨i, j, rfl, rfl, e1⟩ := h dx dy _ hg
  cases e1
  have e1 := top_int tx
  have e2 := top_int ty
  subst e1 e2
  exact ⟨_, _, rfl, rfl, k.now e (.int _)⟩
theorem gSub_ok : OpD (rI0 fun i j => .int (i - j)) gSub := gI0_ok fun dx dy r h => by
  unfold gSub at h
  split at h
  · cases h
    exact ⟨_, _, rfl, rfl, rfl⟩
  · cases h
/-- products: one factor small, or both not too great -/
def gMul : PyData → PyData → Option (PyData × Bool)
  | .int i, .int j => if (-(2 ^ 64) < i ∧ i < 2 ^ 64) ∨ (-(2 ^ 64) < j ∧ j < 2 ^ 64) then some (.int (i * j), false) else none
  | .list a, .int k => if -(2 ^ 63) ≤ k ∧ k < 2 ^ 63 ∧ a.length * k.toNat ≤ 1000 then some (.list (List.replicate k.toNat a).flatten, true) else none
  | _, _ => none
def rMulQ : R2 := fun x y H Q => (rI CMul fun i j => .int (i * j)) x y H Q ∨ rRepQ x y H Q
theorem op_mulQ : OpR X (binaryOp .Mult) rMulQ := op_mul.or op_repQ
theorem gMul_ok : OpD rMulQ gMul := by
  intro R H x y dx dy d fr Q e tx ty hg k
  unfold gMul at hg
  split at hg
  · split at hg
    · rename_i hz
      cases hg
      have e1 := top_int tx
      have e2 := top_int ty
      subst e1 e2
      exact .inl ⟨_, _, rfl, rfl, hz, k.now e (.int _)⟩
    · cases hg
  · split at hg
    · rename_i hz
      cases hg
      obtain ⟨a, vs, rfl, h1, h2⟩ := top_list tx
      have e2 := top_int ty
      subst e2
      refine .inr ⟨a, _, vs, rfl, rfl, h1, hz.1, hz.2.1, by rw [dpa_len h2]; exact sz1000 hz.2.2, fun p hp => k.nowL e hp (dpa_rep h2 _)⟩
    · cases hg
  · cases hg
/-- // by a positive divisor below 2^30, % by a positive one -/
def gDiv : PyData → PyData → Option (PyData × Bool)
  | .int i, .int j => if 0 < j ∧ j < 1073741824 then some (.int (i / j), false) else none
  | _, _ => none
def gMod : PyData → PyData → Option (PyData × Bool)
  | .int i, .int j => if 0 < j then some (.int (i % j), false) else none
  | _, _ => none
def gPow : PyData → PyData → Option (PyData × Bool)
  | .int i, .int j => if 0 ≤ j ∧ j ≤ 1000 ∧ i.natAbs < 2 ^ 64 then some (.int (i ^ j.toNat), false) else none
  | _, _ => none
theorem gI_ok {C : Int → Int → Prop} {g : Int → Int → Int} {gd : PyData → PyData → Option (PyData × Bool)} (h : ∀ dx dy r, gd dx dy = some r → ∃ i j, dx = .int i ∧ dy = .int j ∧ C i j ∧ r = (.int (g i j), false)) : OpD (rI C fun i j => .int (g i j)) gd := by
  intro R H x y dx dy d fr Q e tx ty hg k
  obtain ⟨i, j, rfl, rfl, c, e1⟩ := h dx dy _ hg
  cases e1
  have e1 := top_int tx
  have e2 := top_int ty
  subst e1 e2
  exact ⟨_, _, rfl, rfl, c, k.now e (.int _)⟩
theorem gDiv_ok : OpD (rI CDiv fun i j => .int (i / j)) gDiv := gI_ok fun dx dy r h => by
  unfold gDiv at h
  split at h
  · split at h
    · rename_i hz
      cases h
      exact ⟨_, _, rfl, rfl, hz, rfl⟩
    · cases h
  · cases h
theorem gMod_ok : OpD (rI (fun _ j => 0 < j) fun i j => .int (i % j)) gMod := gI_ok fun dx dy r h => by
  unfold gMod at h
  split at h
  · split at h
    · rename_i hz
      cases h
      exact ⟨_, _, rfl, rfl, hz, rfl⟩
    · cases h
  · cases h
theorem gPow_ok : OpD (rI CPow fun i j => .int (i ^ j.toNat)) gPow := gI_ok fun dx dy r h => by
  unfold gPow at h
  split at h
  · split at h
    · rename_i hz
      cases h
      exact ⟨_, _, rfl, rfl, ⟨hz.1, by omega, hz.2.2⟩, rfl⟩
    · cases h
  · cases h
/-! comparisons -/
def gCmp (p : Int → Int → Bool) : PyData → PyData → Option (PyData × Bool)
  | .int i, .int j => some (.bool (p i j), false)
  | _, _ => none
theorem gCmp_ok (p : Int → Int → Bool) : OpD (rI0 fun i j => .bl (p i j)) (gCmp p) := by
  intro R H x y dx dy d fr Q e tx ty hg k
  unfold gCmp at hg
  split at hg
  · cases hg
    have e1 := top_int tx
    have e2 := top_int ty
    subst e1 e2
    exact ⟨_, _, rfl, rfl, k.now e (.bl _)⟩
  · cases hg
def eqD (x y : PyData) : Option Bool := match x, y with
  | .int i, .int j => some (decide (i = j))
  | x, y => if SeqAt.shaped x && SeqAt.shaped y then some (PyData.eqv x y) else none
def gEq (x y : PyData) : Option (PyData × Bool) := (eqD x y).map fun b => (.bool b, false)
def gNe (x y : PyData) : Option (PyData × Bool) := (eqD x y).map fun b => (.bool (!b), false)
def rEqQ (K : PySem.W.Frag) : R2 := fun x y H Q => rEq x y H Q ∨ rEqD K x y H Q
def rNeQ (K : PySem.W.Frag) : R2 := fun x y H Q => rNe x y H Q ∨ rNeD K x y H Q
theorem op_eqQ (hu : X.A.units + 64 < cLine) : OpR X (compareOp .Eq) (rEqQ X.K) := op_eq.or (op_eqD hu)
theorem op_neQ (hu : X.A.units + 64 < cLine) : OpR X (compareOp .NotEq) (rNeQ X.K) := op_ne.or (op_neD hu)
theorem dec_ints (i j : Int) : decide (V.int i = V.int j) = decide (i = j) := by
  rw [dec_int]
  exact (Bool.beq_eq_decide_eq i j)
theorem gEq_ok : OpD (rEqQ K) gEq := by
  intro R H x y dx dy d fr Q e tx ty hg k
  unfold gEq eqD at hg
  split at hg
  · cases hg
    have e1 := top_int tx
    have e2 := top_int ty
    subst e1 e2
    refine .inl ⟨rfl, ?_⟩
    rw [dec_ints]
    exact k.now e (.bl _)
  · split at hg
    · rename_i hz
      cases hg
      rw [Bool.and_eq_true] at hz
      exact .inr ⟨dx, dy, dq_dp (SeqAt.canLay_of_shaped hz.1) (top_dp e tx), dq_dp (SeqAt.canLay_of_shaped hz.2) (top_dp e ty), hz.1, hz.2, k.now e (.bl _)⟩
    · cases hg
theorem gNe_ok : OpD (rNeQ K) gNe := by
  intro R H x y dx dy d fr Q e tx ty hg k
  unfold gNe eqD at hg
  split at hg
  · cases hg
    have e1 := top_int tx
    have e2 := top_int ty
    subst e1 e2
    refine .inl ⟨rfl, ?_⟩
    rw [dec_ints]
    exact k.now e (.bl _)
  · split at hg
    · rename_i hz
      cases hg
      rw [Bool.and_eq_true] at hz
      exact .inr ⟨dx, dy, dq_dp (SeqAt.canLay_of_shaped hz.1) (top_dp e tx), dq_dp (SeqAt.canLay_of_shaped hz.2) (top_dp e ty), hz.1, hz.2, k.now e (.bl _)⟩
    · cases hg
/-- is None -/
def isN : PyData → Bool
  | .none => true
  | _ => false
def gIsN (neg : Bool) (x y : PyData) : Option (PyData × Bool) := match y with
  | .none => some (.bool (if neg then !isN x else isN x), false)
  | _ => none
theorem isN_of {R H : Hp} {x : V} {dx : PyData} (e : Ex R H) (tx : Top R H x dx) : decide (x = .non) = isN dx := by
  have h := top_dp e tx
  cases h <;> rfl
theorem gIsN_ok : OpD (fun x y H Q => y = .non ∧ Q (.bl (decide (x = .non))) H) (gIsN false) := by
  intro R H x y dx dy d fr Q e tx ty hg k
  unfold gIsN at hg
  split at hg
  · cases hg
    refine ⟨top_non ty, ?_⟩
    rw [isN_of e tx]
    exact k.now e (.bl _)
  · cases hg
theorem gNotN_ok : OpD (fun x y H Q => y = .non ∧ Q (.bl (!decide (x = .non))) H) (gIsN true) := by
  intro R H x y dx dy d fr Q e tx ty hg k
  unfold gIsN at hg
  split at hg
  · cases hg
    refine ⟨top_non ty, ?_⟩
    rw [isN_of e tx]
    exact k.now e (.bl _)
  · cases hg
/-- in, not in, over flat things -/
def flatD : PyData → Bool
  | .none => true
  | .bool _ => true
  | .int _ => true
  | .str _ => true
  | _ => false
def intOf : PyData → Option Int
  | .int i => some i
  | _ => none
def gIn (neg : Bool) (x y : PyData) : Option (PyData × Bool) := match x, y with
  | .int i, .list ds => if ds.all (fun d => (intOf d).isSome) then some (.bool (if neg then !(ds.any fun d => intOf d == some i) else ds.any fun d => intOf d == some i), false) else none
  | .int i, .tuple ds => if ds.all (fun d => (intOf d).isSome) then some (.bool (if neg then !(ds.any fun d => intOf d == some i) else ds.any fun d => intOf d == some i), false) else none
  | _, _ => none
theorem all_ints {R : Hp} : ∀ {ds : List PyData} {vs : List V} (i : Int), DqAll R vs ds → ds.all (fun d => (intOf d).isSome) = true → vs.all flatV = true ∧ inV (.int i) vs = ds.any fun d => intOf d == some i
  | [], _, i, h, _ => by cases h; exact ⟨rfl, rfl⟩
  | d :: ds, _, i, h, e => by
    cases h with
    | cons a b =>
      rw [List.all_cons, Bool.and_eq_true] at e
      obtain ⟨h1, h2⟩ := all_ints i b e.2
      cases a with
      | int j =>
        refine ⟨?_, ?_⟩
        · rw [List.all_cons, h1]
          rfl
        · unfold inV at h2 ⊢
          rw [List.any_cons, h2, List.any_cons]
          have e3 : (intOf (PyData.int j) == some i) = (j == i) := by
            show (some j == some i) = _
            rfl
          rw [e3]
          rfl
      | non => exact absurd e.1 (by decide)
      | bl _ => exact absurd e.1 Bool.false_ne_true
      | str _ => exact absurd e.1 Bool.false_ne_true
      | lst _ _ => exact absurd e.1 Bool.false_ne_true
      | tup _ _ => exact absurd e.1 Bool.false_ne_true
      | op _ => exact absurd e.1 Bool.false_ne_true
      | fz _ _ => exact absurd e.1 Bool.false_ne_true
theorem gIn_ok {neg : Bool} : OpD (rIn K neg) (gIn neg) := by
  intro R H x y dx dy d fr Q e tx ty hg k
  unfold gIn at hg
  split at hg
  · rename_i i ds
    split at hg
    · rename_i hz
      cases hg
      have e1 := top_int tx
      subst e1
      obtain ⟨a, vs, rfl, h1, h2⟩ := top_list ty
      obtain ⟨h3, h4⟩ := all_ints i h2 hz
      refine ⟨a, vs, rfl, .inl (.inl (.inl h1)), rfl, h3, ?_⟩
      rw [h4]
      exact k.now e (.bl _)
    · cases hg
  · rename_i i ds
    split at hg
    · rename_i hz
      cases hg
      have e1 := top_int tx
      subst e1
      obtain ⟨a, vs, rfl, h1, h2⟩ := top_tup e ty
      obtain ⟨h3, h4⟩ := all_ints i h2 hz
      refine ⟨a, vs, rfl, .inr (.inl (.inl (ex_rq e h1))), rfl, h3, ?_⟩
      rw [h4]
      exact k.now e (.bl _)
    · cases hg
  · cases hg
/-! subscripts -/
def gIx : PyData → PyData → Option (PyData × Bool)
  | .list ds, .int i => (atI ds i).map fun d => (d, false)
  | .tuple ds, .int i => (atI ds i).map fun d => (d, false)
  | _, _ => none
theorem gIx_ok : OpD (rIx K) gIx := by
  intro R H x y dx dy d fr Q e tx ty hg k
  unfold gIx at hg
  split at hg
  · rename_i ds i
    cases hq : atI ds i with
    | none => rw [hq] at hg; cases hg
    | some d' =>
      rw [hq] at hg
      cases hg
      have e2 := top_int ty
      subst e2
      obtain ⟨a, vs, rfl, h1, h2⟩ := top_list tx
      obtain ⟨v, h3, h4⟩ := dpa_atI h2 hq
      exact .inl ⟨a, vs, i, v, rfl, rfl, .inl (.inl h1), h3, k.now e h4⟩
  · rename_i ds i
    cases hq : atI ds i with
    | none => rw [hq] at hg; cases hg
    | some d' =>
      rw [hq] at hg
      cases hg
      have e2 := top_int ty
      subst e2
      obtain ⟨a, vs, rfl, h1, h2⟩ := top_tup e tx
      obtain ⟨v, h3, h4⟩ := dpa_atI h2 hq
      exact .inr (.inl ⟨a, vs, i, v, rfl, rfl, .inl (.inl (ex_rq e h1)), h3, k.now e h4⟩)
  · cases hg
/-! slices -/
abbrev OF := En → Option (Option Int × En)
def tO (f : OF) : TO := fun σ H Q => ∃ B H0 R0 R env o env', SRel B H0 R0 R H σ env ∧ f env = some (o, env') ∧
  ∀ R' H', SRel B H0 R0 R' H' σ env' → Ex R R' → Ex H H' → Q o H'
def oNo : OF := fun env => some (none, env)
def oYes (f : WF) : OF := fun env => match f env with
  | some (.int i, e1) => some (some i, e1)
  | _ => none
theorem PO.imp {e : Option Expr} {t t' : TO} (h : PO X e t) (i : ∀ σ H Q, t' σ H Q → t σ H Q) : PO X e t' := ⟨fun pins s σ H Q I q => h.run pins s σ H Q I (i σ H Q q)⟩
theorem qo_no : PO X none (tO oNo) := PO.imp po_none fun σ H Q q => by
  obtain ⟨B, H0, R0, R, env, d, env', S, hf, k⟩ := q
  cases hf
  exact k R H S (Ex.refl R) (Ex.refl H)
theorem qo_yes {e : Expr} {f : WF} (h : PE X e (tW f)) : PO X (some e) (tO (oYes f)) := PO.imp (po_some h) fun σ H Q q => by
  obtain ⟨B, H0, R0, R, env, d, env', S, hf, k⟩ := q
  unfold oYes at hf
  split at hf
  · rename_i i e1 h1
    cases hf
    refine ⟨B, H0, R0, R, env, .int i, _, S, h1, fun v R' H' S' e1 e2 t => ⟨i, top_int t, k R' H' S' e1 e2⟩⟩
  · cases hf
def eSl (f : WF) (lo hi : OF) : EF := fun env => match f env with
  | none => none
  | some (x, e1) => match lo e1 with
    | none => none
    | some (l, e2) => match hi e2 with
      | none => none
      | some (h, e3) => match x with
        | .list ds => some (.list (cutA ds l h), true, e3)
        | .tuple ds => some (.tuple (cutA ds l h), false, e3)
        | _ => none
def rSlQ (K : PySem.W.Frag) : V → Option Int → Option Int → Hp → VK → Prop := fun x lo hi H Q => rSlL K x lo hi H Q ∨ rSlA K x lo hi H Q
theorem cutA_whole {α : Type} (ds : List α) (lo hi : Option Int) (h : HT.sIx ds.length 0 lo = 0 ∧ HT.sIx ds.length ds.length hi = ds.length) : cutA ds lo hi = ds := by
  unfold cutA
  rw [h.1, h.2, List.drop_zero, Nat.sub_zero, List.take_length]
theorem qe_sl {e : Expr} {lo hi : Option Expr} {f : WF} {fl fh : OF} {p2 pos : Pos} (he : PE X e (tW f)) (hl : PO X lo (tO fl)) (hh : PO X hi (tO fh)) : PE X (.Subscript e (.Slice lo hi none p2) pos) (tE (eSl f fl fh)) :=
  PE.imp (pe_slice (r := rSlQ X.K) (sl_list.or sl_tupA) he hl hh) fun σ H Q q => by
    obtain ⟨B, H0, R0, R, env, d, fr, env', S, hf, k⟩ := q
    unfold eSl at hf
    split at hf
    · cases hf
    · rename_i x e1 h1
      split at hf
      · cases hf
      · rename_i l e2 h2
        split at hf
        · cases hf
        · rename_i h e3 h3
          refine ⟨B, H0, R0, R, env, x, e1, S, h1, fun u R1 H1 S1 i1 j1 t1 => ⟨B, H0, R0, R1, e1, l, e2, S1, h2, fun R2 H2 S2 i2 j2 => ⟨B, H0, R0, R2, e2, h, e3, S2, h3, fun R3 H3 S3 i3 j3 => ?_⟩⟩⟩
          have t3 := top_mono (i2.trans i3) (j2.trans j3) t1
          split at hf
          · rename_i ds
            cases hf
            obtain ⟨a, vs, rfl, g1, g2⟩ := top_list t3
            refine .inl ⟨a, vs, rfl, .inl (.inl g1), fun p hp => ?_⟩
            exact Cont.nowL S3.rh (S3.cont fun v R' H' S' e1 e2 r => k v R' H' S' (((i1.trans i2).trans i3).trans e1) (((j1.trans j2).trans j3).trans e2) r) hp (dpa_cut l h g2)
          · rename_i ds
            cases hf
            obtain ⟨a, vs, rfl, g1, g2⟩ := top_tup S3.rh t3
            have kk : Cont R3 H3 (.tuple (cutA ds l h)) false Q := S3.cont fun v R' H' S' e1 e2 r => k v R' H' S' (((i1.trans i2).trans i3).trans e1) (((j1.trans j2).trans j3).trans e2) r
            refine .inr ⟨a, vs, rfl, .inl (.inl (ex_rq S3.rh g1)), fun hw => ?_, fun _ p hp => ?_⟩
            · rw [dpa_len g2] at hw
              rw [cutA_whole ds l h hw] at kk
              exact kk.now S3.rh (.tup g1 g2)
            · exact kk.nowT S3.rh hp (dpa_cut l h g2)
          · cases hf
/-! built-ins -/
def gLen : List PyData → Option (PyData × Bool)
  | [.list ds] => some (.int (ds.length : Int), false)
  | [.tuple ds] => some (.int (ds.length : Int), false)
  | _ => none
theorem tops1 {R H : Hp} {vs : List V} {d : PyData} (h : TopAll R H vs [d]) : ∃ v, vs = [v] ∧ Top R H v d := by
  cases h with
  | cons a b => cases b; exact ⟨_, rfl, a⟩
theorem tops2 {R H : Hp} {vs : List V} {d e : PyData} (h : TopAll R H vs [d, e]) : ∃ v w, vs = [v, w] ∧ Top R H v d ∧ Top R H w e := by
  cases h with
  | cons a b =>
    obtain ⟨w, rfl, c⟩ := tops1 b
    exact ⟨_, _, rfl, a, c⟩
theorem gLen_ok : CallD (fun xs H Q => ∃ p ys, xs = [.ref p] ∧ (SqL K H p ys ∨ SqT K H p ys) ∧ Q (.int ys.length) H) gLen := by
  intro R H vs ds d fr Q e t hg k
  unfold gLen at hg
  split at hg
  · cases hg
    obtain ⟨v, rfl, t1⟩ := tops1 t
    obtain ⟨a, vs, rfl, h1, h2⟩ := top_list t1
    refine ⟨a, vs, rfl, .inl (.inl (.inl h1)), ?_⟩
    rw [dpa_len h2]
    exact k.now e (.int _)
  · cases hg
    obtain ⟨v, rfl, t1⟩ := tops1 t
    obtain ⟨a, vs, rfl, h1, h2⟩ := top_tup e t1
    refine ⟨a, vs, rfl, .inr (.inl (.inl (ex_rq e h1))), ?_⟩
    rw [dpa_len h2]
    exact k.now e (.int _)
  · cases hg
def gList : List PyData → Option (PyData × Bool)
  | [.list ds] => some (.list ds, true)
  | [.tuple ds] => some (.list ds, true)
  | _ => none
theorem gList_ok : CallD (fun xs H Q => ∃ p ys, xs = [.ref p] ∧ (SqL K H p ys ∨ SqT K H p ys) ∧ ∀ l, H l = none → Q (.ref l) (upd H l (.lst ys))) gList := by
  intro R H vs ds d fr Q e t hg k
  unfold gList at hg
  split at hg
  · cases hg
    obtain ⟨v, rfl, t1⟩ := tops1 t
    obtain ⟨a, vs, rfl, h1, h2⟩ := top_list t1
    exact ⟨a, vs, rfl, .inl (.inl (.inl h1)), fun l hl => k.nowL e hl h2⟩
  · cases hg
    obtain ⟨v, rfl, t1⟩ := tops1 t
    obtain ⟨a, vs, rfl, h1, h2⟩ := top_tup e t1
    exact ⟨a, vs, rfl, .inr (.inl (.inl (ex_rq e h1))), fun l hl => k.nowL e hl h2⟩
  · cases hg
def gMin2 : List PyData → Option (PyData × Bool)
  | [.int i, .int j] => some (.int (if j < i then j else i), false)
  | _ => none
def gMax2 : List PyData → Option (PyData × Bool)
  | [.int i, .int j] => some (.int (if j > i then j else i), false)
  | _ => none
theorem gMin2_ok : CallD (fun xs H Q => ∃ i j, xs = [.int i, .int j] ∧ Q (.int (if j < i then j else i)) H) gMin2 := by
  intro R H vs ds d fr Q e t hg k
  unfold gMin2 at hg
  split at hg
  · cases hg
    obtain ⟨v, w, rfl, t1, t2⟩ := tops2 t
    have e1 := top_int t1
    have e2 := top_int t2
    subst e1 e2
    exact ⟨_, _, rfl, k.now e (.int _)⟩
  · cases hg
theorem gMax2_ok : CallD (fun xs H Q => ∃ i j, xs = [.int i, .int j] ∧ Q (.int (if j > i then j else i)) H) gMax2 := by
  intro R H vs ds d fr Q e t hg k
  unfold gMax2 at hg
  split at hg
  · cases hg
    obtain ⟨v, w, rfl, t1, t2⟩ := tops2 t
    have e1 := top_int t1
    have e2 := top_int t2
    subst e1 e2
    exact ⟨_, _, rfl, k.now e (.int _)⟩
  · cases hg
/-! isinstance(x, T) -/
def tyN : PyData → Option String
  | .none => some "NoneType"
  | .bool _ => some "bool"
  | .int _ => some "int"
  | .str _ => some "str"
  | .list _ => some "list"
  | .tuple _ => some "tuple"
  | .dict _ => none
theorem tyN_ok {H : Hp} {v : V} {d : PyData} {n : String} (h : Dq H v d) (e : tyN d = some n) : TyX K H v (.type n) := by
  cases h with
  | non => cases e; exact .base .non
  | bl b => cases e; exact .base (.bl b)
  | int i => cases e; exact .base (.int i)
  | str x => cases e; exact .base (.str x)
  | lst a b =>
    cases e
    exact .base (.lst a)
  | tup a b =>
    cases e
    exact .base (.tup a)
  | op a => cases e
  | fz ns a => cases e
def eIsi (T : String) (f : WF) : EF := fun env => match f env with
  | none => none
  | some (d, e1) => match tyN d with
    | none => none
    | some n => match kitB n T with
      | none => none
      | some b => some (.bool b, false, e1)
theorem qe_isi {e : Expr} {f : WF} {T : String} {x : Str} {p p2 pos : Pos} (hgl : Gl X "isinstance") (hm : X.mg "isinstance" = none) (hv : bootBuiltins "isinstance" = some (.builtin "isinstance")) (he : PE X e (tW f)) (hg2 : Gl X x) (hm2 : X.mg x = none) (hv2 : bootBuiltins x = some (.type T))
    (hn : x ≠ "__name__" := by decide) (hdb : (x == ("__debug__" : Str)) = false := by decide)
    (h1 : starEach [e, .Name x p2] X.env = (false, eval e X.env) :: starEach [.Name x p2] X.env := by rfl) (h2 : (backTo pos (starEach [.Name x p2] X.env)).any (·.1) = false := by rfl) (h3 : starEach [.Name x p2] X.env = (false, eval (.Name x p2) X.env) :: starEach [] X.env := by rfl) :
    PE X (.Call (.Name "isinstance" p) [e, .Name x p2] [] pos) (tE (eIsi T f)) :=
  PE.imp (pe_callB (id := "isinstance") call_isi hgl hm hv (pa_cons he (pa_cons (pe_bltn (v := .ty T) hg2 hm2 hv2 rfl hn hdb) pa_nil h3) h1) (by decide) (by decide) h1 h2) fun σ H Q q => by
    obtain ⟨B, H0, R0, R, env, d, fr, env', S, hf, k⟩ := q
    unfold eIsi at hf
    split at hf
    · cases hf
    · rename_i d' e1 g1
      split at hf
      · cases hf
      · rename_i n hn1
        split at hf
        · cases hf
        · rename_i b hb
          cases hf
          refine ⟨B, H0, R0, R, env, d', _, S, g1, fun v R1 H1 S1 i1 j1 t1 => ?_⟩
          exact ⟨v, .ty T, .type n, .type T, b, rfl, .ty T, tyN_ok (top_dp S1.rh t1) hn1, kit_ty hb, k _ R1 H1 S1 i1 j1 (.bl b)⟩
/-! calls of the program's own: of each parameter the promise says whether it is shared (false), or only read (true) -/
inductive ArgAll (R H : Hp) : List Bool → List V → List PyData → Prop
  | nil : ArgAll R H [] [] []
  | sh {m v d ms vs ds} (h : Dq R v d) (r : ArgAll R H ms vs ds) : ArgAll R H (m :: ms) (v :: vs) (d :: ds)
  | rd {v d ms vs ds} (h : Top R H v d) (r : ArgAll R H ms vs ds) : ArgAll R H (true :: ms) (v :: vs) (d :: ds)
theorem ArgAll.mono {R R' H H' : Hp} (a : Ex R R') (b : Ex H H') : ∀ {ms : List Bool} {vs : List V} {ds : List PyData}, ArgAll R H ms vs ds → ArgAll R' H' ms vs ds
  | _, _, _, .nil => .nil
  | _, _, _, .sh p q => .sh (dp_mono a p) (ArgAll.mono a b q)
  | _, _, _, .rd p q => .rd (top_mono a b p) (ArgAll.mono a b q)
theorem ArgAll.len {R H : Hp} : ∀ {ms : List Bool} {vs : List V} {ds : List PyData}, ArgAll R H ms vs ds → vs.length = ds.length ∧ ms.length = ds.length
  | _, _, _, .nil => ⟨rfl, rfl⟩
  | _, _, _, .sh _ q => ⟨congrArg (· + 1) (ArgAll.len q).1, congrArg (· + 1) (ArgAll.len q).2⟩
  | _, _, _, .rd _ q => ⟨congrArg (· + 1) (ArgAll.len q).1, congrArg (· + 1) (ArgAll.len q).2⟩
def tM (ms : List Bool) (f : AF) : TA := fun σ H Q => ∃ B H0 R0 R env ds env', SRel B H0 R0 R H σ env ∧ f env = some (ds, env') ∧
  ∀ vs R' H', SRel B H0 R0 R' H' σ env' → Ex R R' → Ex H H' → ArgAll R' H' ms vs ds → Q vs H'
theorem qm_nil : PA X [] (tM [] aNil) := PA.imp pa_nil fun σ H Q q => by
  obtain ⟨B, H0, R0, R, env, ds, env', S, hf, k⟩ := q
  cases hf
  exact k [] R H S (Ex.refl R) (Ex.refl H) .nil
theorem qm_s {m : Bool} {ms : List Bool} {e : Expr} {es : List Expr} {f : EF} {ga : AF} (h : PE X e (tE f)) (hr : PA X es (tM ms ga)) (hs : starEach (e :: es) X.env = (false, eval e X.env) :: starEach es X.env := by rfl) : PA X (e :: es) (tM (m :: ms) (aCons f ga)) :=
  PA.imp (pa_cons h hr hs) fun σ H Q q => by
    obtain ⟨B, H0, R0, R, env, ds, env', S, hf, k⟩ := q
    unfold aCons at hf
    split at hf
    · cases hf
    · rename_i d fr e1 h1
      split at hf
      · cases hf
      · rename_i ds' e2 h2
        cases hf
        refine ⟨B, H0, R0, R, env, d, fr, e1, S, h1, fun v R1 H1 S1 i1 j1 r1 => ?_⟩
        obtain ⟨R2, i2, S2, hd⟩ := r1.share S1
        exact ⟨B, H0, R0, R2, e1, ds', _, S2, h2, fun vs R3 H3 S3 i3 j3 r3 => k (v :: vs) R3 H3 S3 ((i1.trans i2).trans i3) (j1.trans j3) (.sh (dp_mono i3 hd) r3)⟩
theorem qm_b {ms : List Bool} {e : Expr} {es : List Expr} {fa : WF} {ga : AF} (h : PE X e (tW fa)) (hr : PA X es (tM ms ga)) (hs : starEach (e :: es) X.env = (false, eval e X.env) :: starEach es X.env := by rfl) : PA X (e :: es) (tM (true :: ms) (bCons fa ga)) :=
  PA.imp (pa_cons h hr hs) fun σ H Q q => by
    obtain ⟨B, H0, R0, R, env, ds, env', S, hf, k⟩ := q
    unfold bCons at hf
    split at hf
    · cases hf
    · rename_i d e1 h1
      split at hf
      · cases hf
      · rename_i ds' e2 h2
        cases hf
        refine ⟨B, H0, R0, R, env, d, e1, S, h1, fun v R1 H1 S1 i1 j1 r1 => ?_⟩
        exact ⟨B, H0, R0, R1, e1, ds', _, S1, h2, fun vs R3 H3 S3 i3 j3 r3 => k (v :: vs) R3 H3 S3 (i1.trans i3) (j1.trans j3) (.rd (top_mono i3 j3 r1) r3)⟩
def spD (g : List PyData → Option (PyData × Bool)) (ms : List Bool) : Sp := fun vs H Q _ => ∃ R ds d fr, Ex R H ∧ ArgAll R H ms vs ds ∧ g ds = some (d, fr) ∧ Cont R H d fr Q
def eCall (g : List PyData → Option (PyData × Bool)) (fa : AF) : EF := fun env => match fa env with
  | none => none
  | some (ds, e1) => match g ds with
    | none => none
    | some (d, fr) => some (d, fr, e1)
theorem qe_call {CX : CXT} {k : Nat} {f : Addr} {fd : FuncData} {ps : List Str} {g : List PyData → Option (PyData × Bool)} {ms : List Bool} {x : Str} {p pos : Pos} {e : Expr} {es : List Expr} {fa : AF} {E : XK}
    (F : FnOk X.prog X.w X.K X.mg X.base CX k f fd ps (spD g ms)) (hr : Room k X.A) (hg : Gl X x) (hm : X.mg x = some (.ref f)) (hk : PySem.W.keepIn X.K (.ref f) = true) (hb : Binds X.K fd ps []) (hx : Passes CX X E)
    (ha : PA X (e :: es) (tM ms fa)) (hdb : (x == ("__debug__" : Str)) = false := by decide) (he : starEach (e :: es) X.env = (false, eval e X.env) :: starEach es X.env := by rfl) (hpl : (backTo pos (starEach es X.env)).any (·.1) = false := by rfl) :
    PE X (.Call (.Name x p) (e :: es) [] pos) (tE (eCall g fa)) := PE.imp (pe_call F hr hg hm hk hb .nil hx ha hdb he hpl) fun σ H Q q => by
  obtain ⟨B, H0, R0, R, env, d, fr, env', S, hf, kk⟩ := q
  unfold eCall at hf
  split at hf
  · cases hf
  · rename_i ds e1 g1
    split at hf
    · cases hf
    · rename_i d' fr' g2
      cases hf
      refine ⟨B, H0, R0, R, env, ds, _, S, g1, fun vs R1 H1 S1 i1 j1 t1 => ?_⟩
      show spD g ms (vs ++ []) H1 Q E
      rw [List.append_nil]
      exact ⟨R1, ds, d, fr, S1.rh, t1, g2, S1.cont fun v R' H' S' e1 e2 r => kk v R' H' S' (i1.trans e1) (j1.trans e2) r⟩
end
end Fw
namespace Fw
open PySem PySem.Spec PyProof.Rows L2 Evl

inductive Out where
  | nx (e : En)
  | rt (d : PyData) (fr : Bool)
  | bk (e : En)
  | ct (e : En)
  | bad
abbrev SF := En → Out
def Good (B H0 R0 R : Hp) (D : Ends) : Out → Prop
  | .nx e => ∀ σ' R' H', SRel B H0 R0 R' H' σ' e → Ex R R' → D.nx σ' H'
  | .bk e => ∀ σ' R' H', SRel B H0 R0 R' H' σ' e → Ex R R' → D.bk σ' H'
  | .ct e => ∀ σ' R' H', SRel B H0 R0 R' H' σ' e → Ex R R' → D.ct σ' H'
  | .rt d fr => Cont R0 H0 d fr D.rt
  | .bad => False
def tS (f : SF) : TS := fun D σ H => ∃ B H0 R0 R env, SRel B H0 R0 R H σ env ∧ Good B H0 R0 R D (f env)

section
variable {B H0 R0 R R' H H' : Hp} {σ : L2.St} {env env' : En} {v : V} {d : PyData} {fr : Bool} {D : Ends}
theorem Good.mono {o : Out} (e : Ex R R') (h : Good B H0 R0 R D o) : Good B H0 R0 R' D o := by
  cases o with
  | nx x => exact fun σ' R2 H' S q => h σ' R2 H' S (e.trans q)
  | bk x => exact fun σ' R2 H' S q => h σ' R2 H' S (e.trans q)
  | ct x => exact fun σ' R2 H' S q => h σ' R2 H' S (e.trans q)
  | rt d fr => exact h
  | bad => exact h
/-- a returned value, seen from the entry -/
theorem Res.rres (S : SRel B H0 R0 R H σ env) (h : Res H0 R H σ env v d fr) : RRes H0 R H v d fr := by
  cases fr with
  | false => exact h
  | true =>
    obtain ⟨a, vs, ds, e1, e2, h1, h2, h3, h4, _⟩ := h
    exact ⟨a, vs, ds, e1, e2, h1, h2, h3, h4⟩
def seqS (f g : SF) : SF := fun env => match f env with
  | .nx e => g e
  | o => o
end
section
variable {X : Cx} {st : Stmt} {rest body : List Stmt} {e a b : Expr} {pos : Pos} {f g : SF} {fe : EF} {fw : WF} {ft : TF}

theorem qs_nil : PSs X [] (tS .nx) := PSs.imp pss_nil fun D σ H ⟨B, H0, R0, R, env, S, h⟩ => h σ R H S (Ex.refl R)
theorem qs_one (h : PS X st (tS f)) : PSs X [st] (tS f) := pss_one h
theorem qs_cons (h1 : PS X st (tS f)) (h2 : PSs X rest (tS g)) : PSs X (st :: rest) (tS (seqS f g)) := PSs.imp (pss_cons h1 h2) fun D σ H ⟨B, H0, R0, R, env, S, h⟩ => by
  refine ⟨B, H0, R0, R, env, S, ?_⟩
  unfold seqS at h
  cases hq : f env with
  | nx e1 =>
    rw [hq] at h
    exact fun σ' R' H' S' i => ⟨B, H0, R0, R', e1, S', Good.mono i h⟩
  | bk e1 => rw [hq] at h; exact h
  | ct e1 => rw [hq] at h; exact h
  | rt d fr => rw [hq] at h; exact h
  | bad => rw [hq] at h; exact h
theorem qs_pass : PS X (.Pass pos) (tS .nx) := PS.imp ps_pass fun D σ H ⟨B, H0, R0, R, env, S, h⟩ => h σ R H S (Ex.refl R)
theorem qs_break : PS X (.Break pos) (tS .bk) := PS.imp ps_break fun D σ H ⟨B, H0, R0, R, env, S, h⟩ => h σ R H S (Ex.refl R)
theorem qs_cont : PS X (.Continue pos) (tS .ct) := PS.imp ps_continue fun D σ H ⟨B, H0, R0, R, env, S, h⟩ => h σ R H S (Ex.refl R)
theorem qs_never : PS X st (tS fun _ => .bad) := PS.imp ps_never fun D σ H ⟨B, H0, R0, R, env, S, h⟩ => h
def sRet (fe : EF) : SF := fun env => match fe env with
  | none => .bad
  | some (d, fr, _) => .rt d fr
theorem qs_ret (h : PE X e (tE fe)) : PS X (.Return (some e) pos) (tS (sRet fe)) := PS.imp (ps_ret h) fun D σ H ⟨B, H0, R0, R, env, S, q⟩ => by
  unfold sRet at q
  cases hq : fe env with
  | none => rw [hq] at q; exact q.elim
  | some r =>
    obtain ⟨d, fr, e1⟩ := r
    rw [hq] at q
    exact ⟨B, H0, R0, R, env, d, fr, e1, S, hq, fun v R' H' S' i j r => q v R' H' S'.r0 S'.h0 S'.rh S'.new (r.rres S')⟩
theorem qs_retN : PS X (.Return none pos) (tS fun _ => .rt .none false) := PS.imp ps_retN fun D σ H ⟨B, H0, R0, R, env, S, q⟩ => q .non R H S.r0 S.h0 S.rh S.new .non
def sIf (c : TF) (f g : SF) : SF := fun env => match c env with
  | none => .bad
  | some (true, e1) => f e1
  | some (false, e1) => g e1
theorem qs_if {c : Expr} {x y : List Stmt} (hc : PT X c (tT ft)) (ha : PSs X x (tS f)) (hb : PSs X y (tS g)) : PS X (.If c x y pos) (tS (sIf ft f g)) := PS.imp (ps_if hc ha hb) fun D σ H ⟨B, H0, R0, R, env, S, q⟩ => by
  unfold sIf at q
  cases hq : ft env with
  | none => rw [hq] at q; exact q.elim
  | some r =>
    obtain ⟨b, e1⟩ := r
    rw [hq] at q
    refine ⟨B, H0, R0, R, env, b, e1, S, hq, fun R1 H1 S1 i j => ?_⟩
    cases b with
    | true => exact iteT ⟨B, H0, R0, R1, e1, S1, Good.mono i q⟩
    | false => exact iteF ⟨B, H0, R0, R1, e1, S1, Good.mono i q⟩
/-! targets -/
abbrev GF := PyData → En → Option En
def tG (js : List Nat) (f : GF) : TG := fun v σ H Q => ∃ B H0 R0 R env d env', SRel B H0 R0 R H σ env ∧ Dq R v d ∧ f d env = some env' ∧ ∀ σ', SRel B H0 R0 R H σ' env' → (∀ i, i ∉ js → σ'[i]? = σ[i]?) → σ'.length = σ.length → Q σ' H
def tGs (js : List Nat) (f : List PyData → En → Option En) : TGs := fun vs σ H Q => ∃ B H0 R0 R env ds env', SRel B H0 R0 R H σ env ∧ DqAll R vs ds ∧ f ds env = some env' ∧ ∀ σ', SRel B H0 R0 R H σ' env' → (∀ i, i ∉ js → σ'[i]? = σ[i]?) → σ'.length = σ.length → Q σ' H
theorem _root_.L2.PG.imp {tg : Expr} {t t' : TG} (h : PG X tg t) (i : ∀ v σ H Q, t' v σ H Q → t v σ H Q) : PG X tg t' := ⟨fun pins s σ H v u Q I r q => h.run pins s σ H v u Q I r (i v σ H Q q)⟩
theorem _root_.L2.PGs.imp {tg : List Expr} {t t' : TGs} (h : PGs X tg t) (i : ∀ v σ H Q, t' v σ H Q → t v σ H Q) : PGs X tg t' := ⟨fun pins s σ H v u Q I r q => h.run pins s σ H v u Q I r (i v σ H Q q)⟩
def gNm (i : Nat) : GF := fun d env => some (env.set i (some (d, false)))
theorem qg_name {x : Str} (i : Nat) (h : PG X (.Name x pos) (gName i)) : PG X (.Name x pos) (tG [i] (gNm i)) := PG.imp h fun v σ H Q ⟨B, H0, R0, R, env, d, env', S, hd, hf, k⟩ => by
  cases hf
  refine k _ (S.setS hd) (fun j hj => ?_) (List.length_set)
  rw [List.getElem?_set_ne]
  intro z
  exact hj (by rw [z]; exact List.mem_singleton.mpr rfl)
def gsNil : List PyData → En → Option En
  | [], env => some env
  | _ :: _, _ => none
def gsCons (f : GF) (g : List PyData → En → Option En) : List PyData → En → Option En
  | [], _ => none
  | d :: ds, env => match f d env with
    | none => none
    | some e1 => g ds e1
theorem qgs_nil : PGs X [] (tGs [] gsNil) := PGs.imp pgs_nil fun vs σ H Q ⟨B, H0, R0, R, env, ds, env', S, hd, hf, k⟩ => by
  cases hd with
  | nil =>
    cases hf
    exact ⟨rfl, k σ S (fun _ _ => rfl) rfl⟩
  | cons a b => cases hf
theorem qgs_cons {tg : Expr} {tgs : List Expr} {js ks : List Nat} {f : GF} {g : List PyData → En → Option En} (h1 : PG X tg (tG js f)) (h2 : PGs X tgs (tGs ks g)) (hs : (assignEach (tg :: tgs) X.env).map (·.2) = assign tg X.env :: (assignEach tgs X.env).map (·.2) := by rfl) : PGs X (tg :: tgs) (tGs (js ++ ks) (gsCons f g)) := PGs.imp (pgs_cons h1 h2 hs) fun vs σ H Q ⟨B, H0, R0, R, env, ds, env', S, hd, hf, k⟩ => by
  cases hd with
  | nil => cases hf
  | cons a b =>
    simp only [gsCons] at hf
    split at hf
    · cases hf
    · rename_i e1 g1
      refine ⟨_, _, rfl, B, H0, R0, R, _, _, _, S, a, g1, fun σ1 S1 n1 l1 => ⟨B, H0, R0, R, _, _, env', S1, b, hf, fun σ2 S2 n2 l2 => k σ2 S2 (fun i hi => ?_) (l2.trans l1)⟩⟩
      rw [List.mem_append, not_or] at hi
      rw [n2 i hi.2, n1 i hi.1]
def gTp (n : Nat) (g : List PyData → En → Option En) : GF := fun d env => match d with
  | .tuple ds => if ds.length = n then g ds env else none
  | _ => none
theorem qg_tup {es : List Expr} {k n : Nat} {js : List Nat} {g : List PyData → En → Option En} (hc : X.calm = true) (h : PGs X es (tGs js g)) (hn : (assignEach es X.env).length = n := by rfl) (hst : (assignEach es X.env).findIdx? (·.1) = none := by rfl) : PG X (.Tuple es k pos) (tG js (gTp n g)) := PG.imp (pg_tup hc h hn hst) fun v σ H Q ⟨B, H0, R0, R, env, d, env', S, hd, hf, kk⟩ => by
  unfold gTp at hf
  split at hf
  · split at hf
    · rename_i ds hl
      cases hd with
      | tup a b => exact ⟨_, _, rfl, .inl (.inl (ex_rq S.rh a)), by rw [dpa_len b, hl], B, H0, R0, R, env, ds, env', S, b, hf, kk⟩
    · cases hf
  · cases hf
/-! assignments -/
def sSet (i : Nat) (fe : EF) : SF := fun env => match fe env with
  | none => .bad
  | some (d, fr, e1) => .nx (e1.set i (some (d, fr)))
theorem setS_ok {i : Nat} {D : Ends} {σ : L2.St} {H : Hp} (q : tS (sSet i fe) D σ H) : tAsg (tE fe) (gName i) D σ H := by
  obtain ⟨B, H0, R0, R, env, S, q⟩ := q
  unfold sSet at q
  cases hq : fe env with
  | none => rw [hq] at q; exact q.elim
  | some r =>
    obtain ⟨d, fr, e1⟩ := r
    rw [hq] at q
    refine ⟨B, H0, R0, R, env, d, fr, e1, S, hq, fun v R' H' S' i j r => ?_⟩
    cases fr with
    | false => exact q _ R' H' (S'.setS r) i
    | true =>
      obtain ⟨p, vs, ds, rfl, rfl, h1, h2, h3, h4, h5⟩ := r
      exact q _ R' H' (S'.setO h1 h2 h3 h4 h5) i
theorem qs_set {tg : Expr} {i : Nat} (h : PS X (.Assign [tg] e pos) (tAsg (tE fe) (gName i))) : PS X (.Assign [tg] e pos) (tS (sSet i fe)) := PS.imp h fun D σ H q => setS_ok q
/-- target = value, the value shared -/
def sAsg (fe : EF) (g : GF) : SF := fun env => match fe env with
  | none => .bad
  | some (d, _, e1) => match g d e1 with
    | none => .bad
    | some e2 => .nx e2
theorem qs_asg {tg : Expr} {js : List Nat} {g : GF} (he : PE X e (tE fe)) (hg : PG X tg (tG js g)) (hs : swapsWithSole [tg] e pos.line X.env = pure false := by rfl) (hw : swappedStores [tg] e X.env = pure none := by rfl) (h1 : (assignEach [tg] X.env).map (·.2) = [assign tg X.env] := by rfl) : PS X (.Assign [tg] e pos) (tS (sAsg fe g)) :=
  PS.imp (ps_asg he hg hs hw h1) fun D σ H ⟨B, H0, R0, R, env, S, q⟩ => by
    unfold sAsg at q
    cases hq : fe env with
    | none => rw [hq] at q; exact q.elim
    | some r =>
      obtain ⟨d, fr, e1⟩ := r
      rw [hq] at q
      cases hq2 : g d e1 with
      | none => simp only [hq2] at q; exact q.elim
      | some e2 =>
        simp only [hq2] at q
        refine ⟨B, H0, R0, R, env, d, fr, e1, S, hq, fun v R' H' S' i j r => ?_⟩
        obtain ⟨R2, i2, S2, hd⟩ := r.share S'
        exact ⟨B, H0, R0, R2, e1, d, e2, S2, hd, hq2, fun σ' S3 _ _ => q σ' R2 H' S3 (i.trans i2)⟩
/-- name op= whole number -/
def sAug (i : Nat) (op : Int → Int → Int) (fe : EF) : SF := fun env => match env[i]? with
  | some (some (.int x, false)) => (match fe env with
    | some (.int y, _, e1) => .nx (e1.set i (some (.int (op x y), false)))
    | _ => .bad)
  | _ => .bad
theorem qs_aug {tg : Expr} {i : Nat} {o : Operator} {op : Int → Int → Int} (h : PS X (.AugAssign tg o e pos) (tAug i (tE fe) (ipI op))) : PS X (.AugAssign tg o e pos) (tS (sAug i op fe)) := PS.imp h fun D σ H ⟨B, H0, R0, R, env, S, q⟩ => by
  unfold sAug at q
  split at q
  · rename_i x hx
    split at q
    · rename_i y fr e1 hy
      obtain ⟨v, h1, h2⟩ := S.slot i _ hx
      have h2 := h2.dq rfl
      cases h2
      refine ⟨_, h1, B, H0, R0, R, env, _, fr, e1, S, hy, fun w R' H' S' i j r => ?_⟩
      have ew := top_int (r.top S')
      subst ew
      exact ⟨x, y, rfl, rfl, q _ R' H' (S'.setS (.int _)) i⟩
    · exact q.elim
  · exact q.elim
/-- an owned list: xs.append(e) -/
def sApp (i : Nat) (fe : EF) : SF := fun env => match env[i]? with
  | some (some (.list ds, true)) => if ds.length < 1000 then (match fe env with
    | some (d, _, e1) => (match e1[i]? with
      | some (some (.list ds', true)) => if ds'.length < 1000 then .nx (e1.set i (some (.list (ds' ++ [d]), true))) else .bad
      | _ => .bad)
    | none => .bad) else .bad
  | _ => .bad
theorem app_ok {i : Nat} {K : PySem.W.Frag} {D : Ends} {σ : L2.St} {H : Hp} (q : tS (sApp i fe) D σ H) : tDrop (tBM K "list" rAppend (tVar i) (tCons (tE fe) tNil)) D σ H := by
  obtain ⟨B, H0, R0, R, env, S, q⟩ := q
  unfold sApp at q
  split at q
  · rename_i ds hx
    split at q
    · split at q
      · rename_i d fr e1 hy
        split at q
        · rename_i ds' hz
          split at q
          · rename_i hl
            obtain ⟨a, vs, ds0, ed, h1, h2, h3, h4, h5⟩ := S.own i _ hx
            refine ⟨_, h1, .inl ⟨rfl, vs, .inl (.inl h2)⟩, B, H0, R0, R, env, d, fr, e1, S, hy, fun w R' H' S' i1 j1 r => ?_⟩
            obtain ⟨R2, i2, S2, hd⟩ := r.share S'
            obtain ⟨a', vs', ds1, ed', g1, g2, g3, g4, g5⟩ := S2.own i _ hz
            rw [h1] at g1
            cases g1
            cases ed'
            refine ⟨a, vs', w, rfl, rfl, g2, by rw [dpa_len g5]; exact Nat.lt_of_lt_of_le hl (by decide), ?_⟩
            refine q σ R2 _ (S2.writeO (vs := vs' ++ [w]) hz h1 (dpa_app g5 (.cons hd .nil))) (i1.trans i2)
          · exact q.elim
        · exact q.elim
      · exact q.elim
    · exact q.elim
  · exact q.elim
/-- an owned list: xs[k] = e -/
def sSetIx (i : Nat) (fe : EF) (fk : WF) : SF := fun env => match fe env with
  | none => .bad
  | some (d, _, e1) => match fk e1 with
    | some (.int k, e2) => (match e2[i]? with
      | some (some (.list ds, true)) => (match ixN ds.length k with
        | some j => .nx (e2.set i (some (.list (ds.set j d), true)))
        | none => .bad)
      | _ => .bad)
    | _ => .bad
def rSetQ : V → V → V → Hp → (Hp → Prop) → Prop := rSetL
theorem setIx_ok {i : Nat} {D : Ends} {σ : L2.St} {H : Hp} (hk : ∀ env r, fw env = some r → r.2 = env) (q : tS (sSetIx i fe fw) D σ H) : tAsg (tE fe) (L2.gSub (tVar i) (tW fw) rSetL) D σ H := by
  obtain ⟨B, H0, R0, R, env, S, q⟩ := q
  unfold sSetIx at q
  split at q
  · exact q.elim
  · rename_i d fr e1 h1
    split at q
    · rename_i k e2 h2
      split at q
      · rename_i ds h3
        split at q
        · rename_i j h4
          have ee := hk _ _ h2
          simp only at ee
          subst ee
          refine ⟨B, H0, R0, R, env, d, fr, _, S, h1, fun w R' H' S' i1 j1 r => ?_⟩
          obtain ⟨R2, i2, S2, hd⟩ := r.share S'
          obtain ⟨a, vs, ds1, ed, g1, g2, g3, g4, g5⟩ := S2.own i _ h3
          cases ed
          refine ⟨_, g1, B, H0, R0, R2, _, _, _, S2, h2, fun u R3 H3 S3 i3 j3 t3 => ?_⟩
          have eu := top_int t3
          subst eu
          obtain ⟨a', vs', ds1, ed', f1, f2, f3, f4, f5⟩ := S3.own i _ h3
          rw [g1] at f1
          cases f1
          cases ed'
          refine ⟨a, vs', k, j, rfl, rfl, f2, by rw [dpa_len f5]; exact h4, ?_⟩
          exact q σ R3 _ (S3.writeO h3 g1 (dpa_set (dp_mono i3 hd) j f5)) ((i1.trans i2).trans i3)
        · exact q.elim
      · exact q.elim
    · exact q.elim
/-- an expression whose value is dropped -/
def sDrop (fe : EF) : SF := fun env => match fe env with
  | none => .bad
  | some (_, _, e1) => .nx e1
theorem qs_drop (h : PE X e (tE fe)) (hs : swapsWith e none pos.line X.env = pure false := by rfl) : PS X (.Expr e pos) (tS (sDrop fe)) := PS.imp (ps_expr h hs) fun D σ H ⟨B, H0, R0, R, env, S, q⟩ => by
  unfold sDrop at q
  cases hq : fe env with
  | none => rw [hq] at q; exact q.elim
  | some r =>
    obtain ⟨d, fr, e1⟩ := r
    rw [hq] at q
    exact ⟨B, H0, R0, R, env, d, fr, e1, S, hq, fun v R' H' S' i j r => q σ R' H' S' i⟩

/-! what is walked -/
structure Wk (B R : Hp) (J : It) (xs : List PyData) : Prop where
  go : ∀ i R' H', Ex B H' → Ex R R' → Ex R' H' → i < xs.length → J.go i H'
  yld : ∀ i R' H' x H'' d, Ex B H' → Ex R R' → Ex R' H' → xs[i]? = some d → J.yld i H' x H'' → ∃ R'', Ex R' R'' ∧ Ex H' H'' ∧ Ex R'' H'' ∧ (∀ b o, R'' b = some o → R' b = none → H' b = none) ∧ Dq R'' x d
  stop : ∀ i R' H', Ex B H' → Ex R R' → Ex R' H' → xs.length ≤ i → J.stop i H'
/-- the walked thing is shared (a loop) | borrowed (a comprehension) -/
def tI (f : AF) : TI := fun σ H Rr => ∃ B H0 R0 R env xs env1, SRel B H0 R0 R H σ env ∧ f env = some (xs, env1) ∧ ∀ J R1 H1, SRel B H0 R0 R1 H1 σ env1 → Ex R R1 → Ex H H1 → Wk B R1 J xs → Rr J H1
def tIb (f : AF) : TI := fun σ H Rr => ∃ B H0 R0 R env xs env1, SRel B H0 R0 R H σ env ∧ f env = some (xs, env1) ∧ ∀ J R1 H1, SRel B H0 R0 R1 H1 σ env1 → Ex R R1 → Ex H H1 → Wk H1 R1 J xs → Rr J H1
theorem _root_.L2.PI.imp {tg it : Expr} {t t' : TI} (h : PI X tg it t) (i : ∀ σ H Q, t' σ H Q → t σ H Q) : PI X tg it t' := ⟨fun pins s σ H R I q => h.run pins s σ H R I (i σ H R q)⟩
theorem wk_list' {K : PySem.W.Frag} {B R : Hp} {a : Addr} {vs : List V} {ds : List PyData} (ha : Rq B a (.lst vs)) (hd : DqAll R vs ds) : Wk B R (Itl K a) ds where
  go := fun i R' H' e _ _ hi => by
    obtain ⟨v, h1, _⟩ := dpa_get hd (List.getElem?_eq_getElem hi)
    exact ⟨vs, v, .inl (.inl (ex_rq e ha)), h1⟩
  yld := fun i R' H' x H'' d e e1 e2 hi hy => by
    obtain ⟨rfl, hy⟩ := hy
    obtain ⟨v, h1, h2⟩ := dpa_get hd hi
    have hx := hy vs (.inl (.inl (ex_rq e ha)))
    rw [h1] at hx
    cases hx
    exact ⟨R', Ex.refl R', Ex.refl _, e2, (fun b o q n => by rw [n] at q; cases q), dp_mono e1 h2⟩
  stop := fun i R' H' e _ _ hi => ⟨vs, .inl (.inl (ex_rq e ha)), by rw [dpa_len hd]; exact hi⟩
theorem wk_tup {K : PySem.W.Frag} {B R : Hp} {a : Addr} {vs : List V} {ds : List PyData} (ha : Rq B a (.tup vs)) (hd : DqAll R vs ds) : Wk B R (Itt K a) ds where
  go := fun i R' H' e _ _ hi => by
    obtain ⟨v, h1, _⟩ := dpa_get hd (List.getElem?_eq_getElem hi)
    exact ⟨vs, v, .inl (.inl (ex_rq e ha)), h1⟩
  yld := fun i R' H' x H'' d e e1 e2 hi hy => by
    obtain ⟨rfl, hy⟩ := hy
    obtain ⟨v, h1, h2⟩ := dpa_get hd hi
    have hx := hy vs (.inl (.inl (ex_rq e ha)))
    rw [h1] at hx
    cases hx
    exact ⟨R', Ex.refl R', Ex.refl _, e2, (fun b o q n => by rw [n] at q; cases q), dp_mono e1 h2⟩
  stop := fun i R' H' e _ _ hi => ⟨vs, .inl (.inl (ex_rq e ha)), by rw [dpa_len hd]; exact hi⟩
theorem wk_listR {K : PySem.W.Frag} {B R : Hp} {a : Addr} {vs : List V} {ds : List PyData} (ha : Rq R a (.lst vs)) (hd : DqAll R vs ds) : Wk B R (Itl K a) ds where
  go := fun i R' H' _ e1 e2 hi => by
    obtain ⟨v, h1, _⟩ := dpa_get hd (List.getElem?_eq_getElem hi)
    exact ⟨vs, v, .inl (.inl (ex_rq (e1.trans e2) ha)), h1⟩
  yld := fun i R' H' x H'' d _ e1 e2 hi hy => by
    obtain ⟨rfl, hy⟩ := hy
    obtain ⟨v, h1, h2⟩ := dpa_get hd hi
    have hx := hy vs (.inl (.inl (ex_rq (e1.trans e2) ha)))
    rw [h1] at hx
    cases hx
    exact ⟨R', Ex.refl R', Ex.refl _, e2, (fun b o q n => by rw [n] at q; cases q), dp_mono e1 h2⟩
  stop := fun i R' H' _ e1 e2 hi => ⟨vs, .inl (.inl (ex_rq (e1.trans e2) ha)), by rw [dpa_len hd]; exact hi⟩
theorem wk_tupR {K : PySem.W.Frag} {B R : Hp} {a : Addr} {vs : List V} {ds : List PyData} (ha : Rq R a (.tup vs)) (hd : DqAll R vs ds) : Wk B R (Itt K a) ds where
  go := fun i R' H' _ e1 e2 hi => by
    obtain ⟨v, h1, _⟩ := dpa_get hd (List.getElem?_eq_getElem hi)
    exact ⟨vs, v, .inl (.inl (ex_rq (e1.trans e2) ha)), h1⟩
  yld := fun i R' H' x H'' d _ e1 e2 hi hy => by
    obtain ⟨rfl, hy⟩ := hy
    obtain ⟨v, h1, h2⟩ := dpa_get hd hi
    have hx := hy vs (.inl (.inl (ex_rq (e1.trans e2) ha)))
    rw [h1] at hx
    cases hx
    exact ⟨R', Ex.refl R', Ex.refl _, e2, (fun b o q n => by rw [n] at q; cases q), dp_mono e1 h2⟩
  stop := fun i R' H' _ e1 e2 hi => ⟨vs, .inl (.inl (ex_rq (e1.trans e2) ha)), by rw [dpa_len hd]; exact hi⟩
def intsD (lo : Int) (n : Nat) : List PyData := (List.range n).map fun (i : Nat) => PyData.int (lo + (i : Int))
theorem intsD_len (lo : Int) (n : Nat) : (intsD lo n).length = n := by unfold intsD; rw [List.length_map, List.length_range]
theorem intsD_get {lo : Int} {n i : Nat} (h : i < n) : (intsD lo n)[i]? = some (.int (lo + (i : Int))) := by
  unfold intsD
  rw [List.getElem?_map, List.getElem?_range h]
  rfl
theorem wk_range {B R : Hp} (lo : Int) (n : Nat) : Wk B R (Itr lo n) (intsD lo n) where
  go := fun i R' H' _ _ _ hi => by rw [intsD_len] at hi; exact hi
  yld := fun i R' H' x H'' d _ _ e2 hi hy => by
    obtain ⟨rfl, rfl⟩ := hy
    have hn : i < n := by
      have := (List.getElem?_eq_some_iff.mp hi).1
      rw [intsD_len] at this
      exact this
    rw [intsD_get hn] at hi
    cases hi
    exact ⟨R', Ex.refl R', Ex.refl _, e2, (fun b o q n => by rw [n] at q; cases q), .int _⟩
  stop := fun i R' H' _ _ _ hi => by rw [intsD_len] at hi; exact hi
def iL (f : EF) : AF := fun env => match f env with
  | some (.list ds, _, e1) => some (ds, e1)
  | _ => none
def iLw (f : WF) : AF := fun env => match f env with
  | some (.list ds, e1) => some (ds, e1)
  | _ => none
def iT (f : EF) : AF := fun env => match f env with
  | some (.tuple ds, _, e1) => some (ds, e1)
  | _ => none
def iR1 (f : AF) : AF := fun env => match f env with
  | some ([.int n], e1) => if -(2 ^ 62) ≤ n ∧ n < 2 ^ 62 then some (intsD 0 n.toNat, e1) else none
  | _ => none
def iR2 (f : AF) : AF := fun env => match f env with
  | some ([.int m, .int n], e1) => if -(2 ^ 62) ≤ m ∧ m < 2 ^ 62 ∧ -(2 ^ 62) ≤ n ∧ n < 2 ^ 62 then some (intsD m (n - m).toNat, e1) else none
  | _ => none
theorem Wk.weak {B R H : Hp} {J : It} {xs : List PyData} (e : Ex B H) (w : Wk B R J xs) : Wk H R J xs :=
  ⟨fun i R' H' a b c => w.go i R' H' (e.trans a) b c, fun i R' H' x H'' d a b c => w.yld i R' H' x H'' d (e.trans a) b c, fun i R' H' a b c => w.stop i R' H' (e.trans a) b c⟩
theorem qi_b {tg it : Expr} {fa : AF} (h : PI X tg it (tI fa)) : PI X tg it (tIb fa) := PI.imp h fun σ H Q ⟨B, H0, R0, R, env, xs, e1, S, hf, k⟩ =>
  ⟨B, H0, R0, R, env, xs, e1, S, hf, fun J R1 H1 S1 i j w => k J R1 H1 S1 i j (w.weak (S1.bb.trans S1.h0))⟩
theorem qi_list {tg l : Expr} (h : PE X l (tE fe)) : PI X tg l (tI (iL fe)) := PI.imp (pi_list h) fun σ H Q ⟨B, H0, R0, R, env, xs, e1, S, hf, k⟩ => by
  unfold iL at hf
  split at hf
  · rename_i ds fr e2 hq
    cases hf
    refine ⟨B, H0, R0, R, env, _, fr, _, S, hq, fun v R' H' S' i j r => ?_⟩
    obtain ⟨R2, i2, S2, hd⟩ := r.share S'
    cases hd with
    | lst a b => exact ⟨_, rfl, ⟨_, .inl (.inl (ex_rq S2.rh a))⟩, k _ R2 H' S2 (i.trans i2) j (wk_listR a b)⟩
  · cases hf
theorem qi_listb {tg l : Expr} (h : PE X l (tW fw)) : PI X tg l (tIb (iLw fw)) := PI.imp (pi_list h) fun σ H Q ⟨B, H0, R0, R, env, xs, e1, S, hf, k⟩ => by
  unfold iLw at hf
  split at hf
  · rename_i ds e2 hq
    cases hf
    refine ⟨B, H0, R0, R, env, _, _, S, hq, fun v R' H' S' i j r => ?_⟩
    obtain ⟨a, vs, rfl, h1, h2⟩ := top_list r
    exact ⟨_, rfl, ⟨_, .inl (.inl h1)⟩, k _ R' H' S' i j (wk_list' h1 h2)⟩
  · cases hf
def iNm (i : Nat) : AF := fun env => match env[i]? with
  | some (some (d, o)) => (match tokOf d with
    | some ds => some (ds, env)
    | none => (match d with
      | .list ds => (match o with
        | false => some (ds, env)
        | true => some (ds, env.set i (some (.list ds, false))))
      | _ => none))
  | _ => none
theorem qi_nm {tg : Expr} {x : Str} (i : Nat) (h : PE X (.Name x pos) (tVar i)) : PI X tg (.Name x pos) (tI (iNm i)) := PI.imp (pi_list h) fun σ H Q ⟨B, H0, R0, R, env, xs, e1, S, hf, k⟩ => by
  unfold iNm at hf
  split at hf
  · rename_i d o hq
    split at hf
    · rename_i ds ht
      cases hf
      cases o with
      | false =>
        obtain ⟨v, h1, h2⟩ := S.slot i _ hq
        obtain ⟨a, vs, rfl, h3, h4⟩ := h2.tok ht
        exact ⟨_, h1, _, rfl, ⟨_, .inl (.inl (ex_rq (S.bb.trans S.h0) h3))⟩, k _ R H S (Ex.refl R) (Ex.refl H) (wk_list' h3 h4)⟩
      | true =>
        obtain ⟨a, vs, ds, rfl, h1, h2, h3, h4, h5⟩ := S.own i _ hq
        cases ht
    · rename_i ht
      split at hf
      · rename_i ds
        cases o with
        | false =>
          cases hf
          obtain ⟨v, h1, h2⟩ := S.slot i _ hq
          cases h2.dq ht with
          | lst a b => exact ⟨_, h1, _, rfl, ⟨_, .inl (.inl (ex_rq S.rh a))⟩, k _ R H S (Ex.refl R) (Ex.refl H) (wk_listR a b)⟩
        | true =>
          cases hf
          obtain ⟨R', v, e, S', h1, h2⟩ := S.freeze hq
          cases h2 with
          | lst a b => exact ⟨_, h1, _, rfl, ⟨_, .inl (.inl (ex_rq S'.rh a))⟩, k _ R' H S' e (Ex.refl H) (wk_listR a b)⟩
      · cases hf
  · cases hf
theorem qi_tup {tg l : Expr} (h : PE X l (tE fe)) : PI X tg l (tI (iT fe)) := PI.imp (pi_tup h) fun σ H Q ⟨B, H0, R0, R, env, xs, e1, S, hf, k⟩ => by
  unfold iT at hf
  split at hf
  · rename_i ds fr e2 hq
    cases hf
    refine ⟨B, H0, R0, R, env, _, fr, _, S, hq, fun v R' H' S' i j r => ?_⟩
    obtain ⟨R2, i2, S2, hd⟩ := r.share S'
    cases hd with
    | tup a b => exact ⟨_, rfl, ⟨_, .inl (.inl (ex_rq S2.rh a))⟩, k _ R2 H' S2 (i.trans i2) j (wk_tupR a b)⟩
  · cases hf
theorem qi_range1 {tg a : Expr} {p pos : Pos} {fa : AF} (hg : Gl X "range") (hm : X.mg "range" = none) (ha : PA X [a] (tA fa)) (hs : starEach [a] X.env = [(false, eval a X.env)] := by rfl) : PI X tg (.Call (.Name "range" p) [a] [] pos) (tI (iR1 fa)) :=
  PI.imp (pi_range1 hg hm ha hs) fun σ H Q ⟨B, H0, R0, R, env, xs, e1, S, hf, k⟩ => by
  unfold iR1 at hf
  split at hf
  · rename_i n e2 hq
    split at hf
    · rename_i hz
      cases hf
      refine ⟨B, H0, R0, R, env, _, _, S, hq, fun vs R' H' S' i j r => ?_⟩
      have hv : vs = [.int n] := dpa_ints (ns := [n]) r
      exact ⟨n, hv, hz.1, hz.2, k _ R' H' S' i j (wk_range 0 _)⟩
    · cases hf
  all_goals cases hf
theorem qi_range2 {tg a b : Expr} {p pos : Pos} {fa : AF} (hg : Gl X "range") (hm : X.mg "range" = none) (ha : PA X [a, b] (tA fa)) (hs : starEach [a, b] X.env = [(false, eval a X.env), (false, eval b X.env)] := by rfl) (hs2 : starEach [b] X.env = [(false, eval b X.env)] := by rfl) :
    PI X tg (.Call (.Name "range" p) [a, b] [] pos) (tI (iR2 fa)) :=
  PI.imp (pi_range2 hg hm ha hs hs2) fun σ H Q ⟨B, H0, R0, R, env, xs, e1, S, hf, k⟩ => by
  unfold iR2 at hf
  split at hf
  · rename_i m n e2 hq
    split at hf
    · rename_i hz
      cases hf
      refine ⟨B, H0, R0, R, env, _, _, S, hq, fun vs R' H' S' i j r => ?_⟩
      have hv : vs = [.int m, .int n] := dpa_ints (ns := [m, n]) r
      exact ⟨m, n, hv, hz, k _ R' H' S' i j (wk_range m _)⟩
    · cases hf
  all_goals cases hf
/-! for -/
def loopS (g : GF) (fb : SF) : List PyData → En → Out
  | [], env => .nx env
  | x :: xs, env => match g x env with
    | none => .bad
    | some e1 => match fb e1 with
      | .nx e2 => loopS g fb xs e2
      | .ct e2 => loopS g fb xs e2
      | .bk e2 => .nx e2
      | o => o
def sFor (fi : AF) (g : GF) (fb : SF) : SF := fun env => match fi env with
  | none => .bad
  | some (xs, e1) => loopS g fb xs e1
theorem for_ok {fi : AF} {js : List Nat} {g : GF} {fb : SF} {D : Ends} {σ : L2.St} {H : Hp} (q : tS (sFor fi g fb) D σ H) : tFor (tI fi) (tG js g) (tS fb) D σ H := by
  obtain ⟨B, H0, R0, R, env, S, q⟩ := q
  unfold sFor at q
  cases hq : fi env with
  | none => rw [hq] at q; exact q.elim
  | some r =>
    obtain ⟨xs, e1⟩ := r
    rw [hq] at q
    simp only at q
    refine ⟨B, H0, R0, R, env, xs, e1, S, hq, fun J R1 H1 S1 i1 j1 w => ?_⟩
    refine ⟨fun i m σ' H' => m = xs.length - i ∧ i ≤ xs.length ∧ ∃ R' e', SRel B H0 R0 R' H' σ' e' ∧ Ex R1 R' ∧ Good B H0 R0 R' D (loopS g fb (xs.drop i) e'), ⟨xs.length, by simp, Nat.zero_le _, R1, e1, S1, Ex.refl R1, Good.mono i1 q⟩, ?_⟩
    rintro i m σ' H' ⟨rfl, hi, R', e', S', i2, hg⟩
    by_cases hlt : i < xs.length
    · refine .inr ⟨w.go i R' H' (S'.bb.trans S'.h0) i2 S'.rh hlt, fun σ2 H2 => ∃ R2 e2, SRel B H0 R0 R2 H2 σ2 e2 ∧ Ex R1 R2 ∧ Good B H0 R0 R2 D (loopS g fb (xs.drop (i + 1)) e2), fun σ2 H2 ⟨R2, e2, h2⟩ => ⟨xs.length - (i + 1), by omega, rfl, hlt, R2, e2, h2⟩, fun x H'' hy => ?_⟩
      obtain ⟨R'', a1, a2, a3, a4, a5⟩ := w.yld i R' H' x H'' xs[i] (S'.bb.trans S'.h0) i2 S'.rh (List.getElem?_eq_getElem hlt) hy
      have S'' := S'.growR a2 a1 a3 a4
      rw [List.drop_eq_getElem_cons hlt] at hg
      unfold loopS at hg
      split at hg
      · exact hg.elim
      · rename_i e3 h3
        refine ⟨B, H0, R0, R'', e', xs[i], e3, S'', a5, h3, fun σ3 S3 _ _ => ⟨B, H0, R0, R'', e3, S3, ?_⟩⟩
        have hg' := Good.mono a1 hg
        cases hb : fb e3 with
        | nx e4 =>
          rw [hb] at hg'
          exact fun σ4 R4 H4 S4 i4 => ⟨R4, e4, S4, (i2.trans a1).trans i4, Good.mono i4 hg'⟩
        | ct e4 =>
          rw [hb] at hg'
          exact fun σ4 R4 H4 S4 i4 => ⟨R4, e4, S4, (i2.trans a1).trans i4, Good.mono i4 hg'⟩
        | bk e4 => rw [hb] at hg'; exact hg'
        | rt d fr => rw [hb] at hg'; exact hg'
        | bad => rw [hb] at hg'; exact hg'
    · refine .inl ⟨w.stop i R' H' (S'.bb.trans S'.h0) i2 S'.rh (by omega), ?_⟩
      rw [List.drop_eq_nil_of_le (by omega)] at hg
      exact hg σ' R' H' S' (Ex.refl R')
theorem qs_for {tg iter : Expr} {fi : AF} {js : List Nat} {g : GF} {fb : SF} (hp : PassesOwn (model X.prog X.w) X.A X.env X.xe) (hc : X.calm = true) (hi : PI X tg iter (tI fi)) (hg : PG X tg (tG js g)) (hb : PSs X body (tS fb)) (hs : ∀ x, foldedSetIterable iter X.env x = pure x := by intro _; rfl) :
    PS X (.For tg iter body [] pos) (tS (sFor fi g fb)) := PS.imp (ps_for hp hc hi hg hb hs) fun D σ H q => for_ok q
/-! while -/
def whileS (c : TF) (fb : SF) : Nat → En → Out
  | 0, _ => .bad
  | n + 1, env => match c env with
    | none => .bad
    | some (false, e1) => .nx e1
    | some (true, e1) => match fb e1 with
      | .nx e2 => whileS c fb n e2
      | .ct e2 => whileS c fb n e2
      | .bk e2 => .nx e2
      | o => o
theorem while_ok {c : TF} {fb : SF} {D : Ends} {σ : L2.St} {H : Hp} (n : Nat) (q : tS (whileS c fb n) D σ H) : tWhile (tT c) (tS fb) D σ H := by
  obtain ⟨B, H0, R0, R, env, S, q⟩ := q
  refine ⟨fun m σ' H' => ∃ R' e', SRel B H0 R0 R' H' σ' e' ∧ Good B H0 R0 R' D (whileS c fb m e'), ⟨n, R, env, S, q⟩, fun m σ' H' ⟨R', e', S', hg⟩ => ?_⟩
  cases m with
  | zero => exact hg.elim
  | succ m =>
    unfold whileS at hg
    split at hg
    · exact hg.elim
    · rename_i e1 h1
      exact ⟨B, H0, R0, R', e', false, e1, S', h1, fun R1 H1 S1 i j => iteF (hg σ' R1 H1 S1 i)⟩
    · rename_i e1 h1
      refine ⟨B, H0, R0, R', e', true, e1, S', h1, fun R1 H1 S1 i j => iteT ⟨fun σ2 H2 => ∃ R2 e2, SRel B H0 R0 R2 H2 σ2 e2 ∧ Good B H0 R0 R2 D (whileS c fb m e2), fun σ2 H2 h2 => ⟨m, Nat.lt_succ_self m, h2⟩, B, H0, R0, R1, e1, S1, ?_⟩⟩
      have hg' := Good.mono i hg
      cases hb : fb e1 with
      | nx e4 =>
        rw [hb] at hg'
        exact fun σ4 R4 H4 S4 i4 => ⟨R4, e4, S4, Good.mono i4 hg'⟩
      | ct e4 =>
        rw [hb] at hg'
        exact fun σ4 R4 H4 S4 i4 => ⟨R4, e4, S4, Good.mono i4 hg'⟩
      | bk e4 => rw [hb] at hg'; exact hg'
      | rt d fr => rw [hb] at hg'; exact hg'
      | bad => rw [hb] at hg'; exact hg'
theorem qs_while {c : Expr} {fb : SF} (n : Nat) (hp : PassesOwn (model X.prog X.w) X.A X.env X.xe) (hc : PT X c (tT ft)) (hb : PSs X body (tS fb)) : PS X (.While c body [] pos) (tS (whileS ft fb n)) := PS.imp (ps_while hp hc hb) fun D σ H q => while_ok n q
/-! comprehensions -/
def wipeE (env : En) : List Nat → En
  | [] => env
  | v :: vs => (wipeE env vs).set v none
def lcLoop (g : GF) (ft : TF) (fe : EF) (vs : List Nat) : List PyData → En → Option (List PyData × En)
  | [], env => some ([], env)
  | x :: xs, env => match g x env with
    | none => none
    | some e1 => match ft e1 with
      | none => none
      | some (true, e2) => (match fe e2 with
        | none => none
        | some (d, _, e3) => (match lcLoop g ft fe vs xs (wipeE e3 vs) with
          | none => none
          | some (ds, e4) => some (d :: ds, e4)))
      | some (false, e2) => lcLoop g ft fe vs xs (wipeE e2 vs)
def eLc (fi : AF) (g : GF) (ft : TF) (fe : EF) (vs : List Nat) : EF := fun env => match fi env with
  | none => none
  | some (xs, e1) => if xs.length ≤ 1000 then (match lcLoop g ft fe vs xs (wipeE e1 vs) with
    | none => none
    | some (ds, e2) => some (.list ds, true, e2)) else none
end
section
variable {B H0 R0 R R' H H' : Hp} {σ : L2.St} {env env' : En} {v : V} {d : PyData} {fr : Bool} {D : Ends}
theorem SRel.wipe (S : SRel B H0 R0 R H σ env) : ∀ vs : List Nat, SRel B H0 R0 R H (L2.wipe σ vs) (wipeE env vs)
  | [] => S
  | v :: vs => by
    have S' := SRel.wipe S vs
    show SRel B H0 R0 R H ((L2.wipe σ vs).set v none) ((wipeE env vs).set v none)
    by_cases hv : v < (wipeE env vs).length
    · have old : ∀ (j : Nat) (x : PyData × Bool), ((wipeE env vs).set v none)[j]? = some (some x) → j ≠ v ∧ (wipeE env vs)[j]? = some (some x) := fun j x q => by
        by_cases hj : j = v
        · subst hj
          rw [List.getElem?_set_self hv] at q
          cases q
        · rw [List.getElem?_set_ne (Ne.symm hj)] at q
          exact ⟨hj, q⟩
      have oldσ : ∀ (j : Nat), j ≠ v → ((L2.wipe σ vs).set v none)[j]? = (L2.wipe σ vs)[j]? := fun j hj => List.getElem?_set_ne (Ne.symm hj)
      refine ⟨S'.rh, S'.r0, S'.h0, S'.bb, S'.new, fun j x q => ?_, fun j x q => ?_, fun j k x y b hjk q1 q2 q3 q4 => ?_, by rw [List.length_set, List.length_set]; exact S'.len⟩
      · obtain ⟨a, b⟩ := old j _ q
        rw [oldσ j a]
        exact S'.slot j x b
      · obtain ⟨a, b⟩ := old j _ q
        rw [oldσ j a]
        exact S'.own j x b
      · obtain ⟨a1, b1⟩ := old j _ q1
        obtain ⟨a2, b2⟩ := old k _ q2
        rw [oldσ j a1] at q3
        rw [oldσ k a2] at q4
        exact S'.dis j k x y b hjk b1 b2 q3 q4
    · have h2 : (L2.wipe σ vs).length ≤ v := by rw [S'.len]; omega
      rw [List.set_eq_of_length_le h2, List.set_eq_of_length_le (by omega)]
      exact S'
/-- back to the slots as they were -/
theorem SRel.unwipe {vs : List Nat} (S : SRel B H0 R0 R H (L2.wipe σ vs) env) : SRel B H0 R0 R H σ env :=
  ⟨S.rh, S.r0, S.h0, S.bb, S.new, fun i d q => by
    obtain ⟨v, h1, h2⟩ := S.slot i d q
    exact ⟨v, (wipe_some h1).1, h2⟩, fun i d q => by
    obtain ⟨a, ws, ds, h0, h1, h2⟩ := S.own i d q
    exact ⟨a, ws, ds, h0, (wipe_some h1).1, h2⟩, fun j k x y b hjk q1 q2 q3 q4 => by
    obtain ⟨a, ws, ds, _, h1, _⟩ := S.own j x q1
    obtain ⟨a', ws', ds', _, h1', _⟩ := S.own k y q2
    have e1 := (wipe_some h1).1
    have e2 := (wipe_some h1').1
    rw [q3] at e1
    rw [q4] at e2
    cases e1
    cases e2
    exact S.dis j k x y b hjk q1 q2 h1 h1', by rw [← S.len, wipe_length]⟩
theorem wipe_agree {σ' : L2.St} {vs js : List Nat} (hj : ∀ j ∈ js, j ∈ vs) (hl : σ'.length = σ.length) (h : ∀ i, i ∉ js → σ'[i]? = (L2.wipe σ vs)[i]?) : L2.wipe σ' vs = L2.wipe σ vs := by
  have wi : ∀ (τ : L2.St) (vs : List Nat) (i : Nat), (L2.wipe τ vs)[i]? = if i ∈ vs ∧ i < τ.length then some none else τ[i]? := fun τ vs i => by
    induction vs with
    | nil =>
      show τ[i]? = _
      rw [if_neg (by simp)]
    | cons v vs ih =>
      show ((L2.wipe τ vs).set v none)[i]? = _
      by_cases hv : v = i
      · subst hv
        by_cases hlt : v < τ.length
        · rw [List.getElem?_set_self (by rw [wipe_length]; exact hlt), if_pos ⟨List.mem_cons_self, hlt⟩]
        · rw [List.getElem?_eq_none (by rw [List.length_set, wipe_length]; omega), if_neg (fun z => hlt z.2), List.getElem?_eq_none (by omega)]
      · rw [List.getElem?_set_ne hv, ih]
        have : (i ∈ v :: vs ∧ i < τ.length) ↔ (i ∈ vs ∧ i < τ.length) := by
          rw [List.mem_cons]
          exact ⟨fun z => ⟨z.1.elim (fun y => absurd y.symm hv) id, z.2⟩, fun z => ⟨.inr z.1, z.2⟩⟩
        by_cases hc : i ∈ vs ∧ i < τ.length
        · rw [if_pos hc, if_pos (this.mpr hc)]
        · rw [if_neg hc, if_neg (fun z => hc (this.mp z))]
  refine List.ext_getElem? fun i => ?_
  rw [wi, wi, hl]
  by_cases hc : i ∈ vs ∧ i < σ.length
  · rw [if_pos hc, if_pos hc]
  · rw [if_neg hc, if_neg hc]
    by_cases hij : i ∈ js
    · have h1 : ¬ i < σ.length := fun z => hc ⟨hj i hij, z⟩
      rw [List.getElem?_eq_none (by omega), List.getElem?_eq_none (by omega)]
    · rw [h i hij, wi, if_neg hc]
end
section
variable {X : Cx} {st : Stmt} {rest body : List Stmt} {e a b : Expr} {pos : Pos} {f g : SF} {fe : EF} {fw : WF} {ft : TF}
theorem SRel.lower {B H0 H0' R0 R H : Hp} {σ : L2.St} {env : En} (eb : Ex B H0) (e : Ex H0 H0') (S : SRel B H0' R0 R H σ env) : SRel B H0 R0 R H σ env :=
  ⟨S.rh, S.r0, e.trans S.h0, eb, fun b o q n => fresh_back e (S.new b o q n), S.slot, fun i d q => by
    obtain ⟨a, ws, ds, h0, h1, h2, h3, h4, h5⟩ := S.own i d q
    exact ⟨a, ws, ds, h0, h1, h2, h3, fresh_back e h4, h5⟩, S.dis, S.len⟩
theorem SRel.raise {B H0 R0 R H : Hp} {σ : L2.St} {env : En} {a : Addr} {o : HO} (S : SRel B H0 R0 R H σ env) (h : H a = some o) (n : R a = none) (ap : Apart σ env a) : SRel B (upd H0 a o) R0 R H σ env := by
  refine ⟨S.rh, S.r0, fun b u q => ?_, fun b u q => ?_, fun b u q z => ?_, S.slot, fun i d q => ?_, S.dis, S.len⟩
  · by_cases hb : b = a
    · subst hb
      rw [upd_same] at q
      cases q
      exact h
    · rw [upd_ne hb] at q
      exact S.h0 b u q
  · by_cases hb : b = a
    · subst hb
      rw [upd_same, ← h]
      exact S.h0 b u (S.bb b u q)
    · rw [upd_ne hb]
      exact S.bb b u q
  · have hb : b ≠ a := ne_of_none q n
    rw [upd_ne hb]
    exact S.new b u q z
  · obtain ⟨c, ws, ds, h0, h1, h2, h3, h4, h5⟩ := S.own i d q
    have hc : c ≠ a := fun z => ap i d q (by rw [← z]; exact h1)
    exact ⟨c, ws, ds, h0, h1, h2, h3, by rw [upd_ne hc]; exact h4, h5⟩
/-- what is known of a cell that was put ahead of the entry -/
theorem SRel.held {B H0 R0 R H : Hp} {σ : L2.St} {env : En} {a : Addr} {o : HO} (S : SRel B (upd H0 a o) R0 R H σ env) (n : R0 a = none) : H a = some o ∧ R a = none ∧ Apart σ env a := by
  refine ⟨S.h0 a o upd_same, ?_, fun i d q z => ?_⟩
  · cases h : R a with
    | none => rfl
    | some u =>
      have := S.new a u h n
      rw [upd_same] at this
      cases this
  · obtain ⟨c, ws, ds, h0, h1, h2, h3, h4, h5⟩ := S.own i d q
    rw [z] at h1
    cases h1
    rw [upd_same] at h4
    cases h4
theorem lc_ok {fi : AF} {js vs : List Nat} {g : GF} (hjs : ∀ j ∈ js, j ∈ vs) {σ : L2.St} {H : Hp} {Q : VK} (q : tE (eLc fi g ft fe vs) σ H Q) : tLc (tIb fi) (tG js g) (tT ft) (tE fe) vs σ H Q := by
  obtain ⟨B, H0, R0, R, env, d, fr, env', S, hf, k⟩ := q
  unfold eLc at hf
  cases hq : fi env with
  | none => rw [hq] at hf; cases hf
  | some r =>
    obtain ⟨xs, e1⟩ := r
    rw [hq] at hf
    simp only at hf
    split at hf
    · rename_i hz
      cases hq2 : lcLoop g ft fe vs xs (wipeE e1 vs) with
      | none => rw [hq2] at hf; cases hf
      | some r =>
        obtain ⟨ds, e2⟩ := r
        rw [hq2] at hf
        cases hf
        refine ⟨B, H0, R0, R, env, xs, e1, S, hq, fun J R1 H1 S1 i1 j1 w Dl hD => ?_⟩
        obtain ⟨nR, n0, nA⟩ := S1.fresh hD
        have nR0 : R0 Dl = none := fresh_back S1.r0 nR
        have tot : ∀ acc rest : List PyData, acc ++ rest = ds → True := fun _ _ _ => trivial
        refine ⟨fun i m H' => m = xs.length - i ∧ i ≤ xs.length ∧ ∃ R' e' acc wsV rest, SRel B H0 R0 R' H' (L2.wipe σ vs) e' ∧ Ex R1 R' ∧ Ex H1 H' ∧ R' Dl = none ∧ Apart (L2.wipe σ vs) e' Dl ∧ H' Dl = some (.lst wsV) ∧ DqAll R' wsV acc ∧
          lcLoop g ft fe vs (xs.drop i) e' = some (rest, env') ∧ acc ++ rest = ds ∧ acc.length ≤ i, ⟨xs.length, by simp, Nat.zero_le _, R1, wipeE e1 vs, [], [], ds, ?_, Ex.refl R1, Ex.new hD, nR, ?_, upd_same, .nil, hq2, rfl, Nat.le_refl _⟩, ?_⟩
        · exact ((S1.wipe vs).other nR n0 ((S1.wipe vs).fresh hD).2.2)
        · exact ((S1.wipe vs).fresh hD).2.2
        · rintro i m H' ⟨rfl, hi, R', e', acc, wsV, rest, S', i2, j2, nR', nA', hD', hacc, hl, hrest, hai⟩
          by_cases hlt : i < xs.length
          · refine .inr ⟨w.go i R' H' j2 i2 S'.rh hlt, fun H2 => ∃ R2 e2 acc wsV rest, SRel B H0 R0 R2 H2 (L2.wipe σ vs) e2 ∧ Ex R1 R2 ∧ Ex H1 H2 ∧ R2 Dl = none ∧ Apart (L2.wipe σ vs) e2 Dl ∧ H2 Dl = some (.lst wsV) ∧ DqAll R2 wsV acc ∧
              lcLoop g ft fe vs (xs.drop (i + 1)) e2 = some (rest, env') ∧ acc ++ rest = ds ∧ acc.length ≤ i + 1, fun H2 ⟨R2, e2, acc2, ws2, rest2, h2⟩ => ⟨xs.length - (i + 1), by omega, rfl, hlt, R2, e2, acc2, ws2, rest2, h2⟩, fun x H'' hy => ?_⟩
            obtain ⟨R'', a1, a2, a3, a4, a5⟩ := w.yld i R' H' x H'' xs[i] j2 i2 S'.rh (List.getElem?_eq_getElem hlt) hy
            have S'' := (S'.raise hD' nR' nA').growR a2 a1 a3 (fun b o q z => a4 b o q z)
            rw [List.drop_eq_getElem_cons hlt] at hl
            unfold lcLoop at hl
            split at hl
            · cases hl
            · rename_i e3 h3
              refine ⟨B, _, R0, R'', e', xs[i], e3, S'', a5, h3, fun σ3 S3 n3 l3 => ?_⟩
              have hw3 : L2.wipe σ3 vs = L2.wipe σ vs := wipe_agree hjs (l3.trans (wipe_length σ vs)) n3
              refine ⟨hw3, ?_⟩
              split at hl
              · cases hl
              · rename_i e4 h4
                refine ⟨B, _, R0, R'', e3, true, e4, S3, h4, fun R5 H5 S5 i5 j5 => iteT ?_⟩
                split at hl
                · cases hl
                · rename_i dd frr e6 h6
                  split at hl
                  · cases hl
                  · rename_i rest' e7 h7
                    cases hl
                    refine ⟨B, _, R0, R5, e4, dd, frr, e6, S5, h6, fun y R6 H6 S6 i6 j6 r6 => ?_⟩
                    obtain ⟨R7, i7, S7, hd7⟩ := r6.share S6
                    obtain ⟨p1, p2, p3⟩ := S7.held nR0
                    have S8 : SRel B (upd H0 Dl (.lst wsV)) R0 R7 H6 (L2.wipe σ vs) (wipeE e6 vs) := by rw [← hw3]; exact S7.wipe vs
                    have big : Ex R' R7 := ((a1.trans i5).trans i6).trans i7
                    refine ⟨wsV, p1, ?_, R7, wipeE e6 vs, acc ++ [dd], wsV ++ [y], rest', ?_, i2.trans big, Ex.mut (((j2.trans a2).trans j5).trans j6) hD, p2, (S8.held nR0).2.2, upd_same, dpa_app (dpa_mono big hacc) (.cons hd7 .nil), h7, ?_, ?_⟩
                    · rw [dpa_len hacc]
                      exact Nat.lt_of_le_of_lt (show acc.length ≤ 1000 by omega) (by decide)
                    · exact (S8.lower S1.bb (Ex.new n0)).other p2 n0 (S8.held nR0).2.2
                    · rw [List.append_assoc]
                      exact hrest
                    · rw [List.length_append]
                      exact Nat.succ_le_succ hai
              · rename_i e4 h4
                refine ⟨B, _, R0, R'', e3, false, e4, S3, h4, fun R5 H5 S5 i5 j5 => iteF ?_⟩
                obtain ⟨p1, p2, p3⟩ := S5.held nR0
                have S8 : SRel B (upd H0 Dl (.lst wsV)) R0 R5 H5 (L2.wipe σ vs) (wipeE e4 vs) := by rw [← hw3]; exact S5.wipe vs
                have big : Ex R' R5 := a1.trans i5
                exact ⟨R5, wipeE e4 vs, acc, wsV, rest, S8.lower S1.bb (Ex.new n0), i2.trans big, (j2.trans a2).trans j5, p2, (S8.held nR0).2.2, p1, dpa_mono big hacc, hl, hrest, by omega⟩
          · rw [List.drop_eq_nil_of_le (by omega)] at hl
            unfold lcLoop at hl
            cases hl
            rw [List.append_nil] at hrest
            subst hrest
            refine .inl ⟨w.stop i R' H' j2 i2 S'.rh (by omega), ?_⟩
            refine k _ R' H' S'.unwipe (i1.trans i2) (j1.trans j2) ⟨Dl, wsV, acc, rfl, rfl, hD', nR', n0, hacc, fun j x q z => ?_⟩
            obtain ⟨c, ws, es, _, g1, _⟩ := S'.own j x q
            have g2 := (wipe_some g1).1
            rw [z] at g2
            cases g2
            exact nA' j x q g1
    · cases hf
def gTst : TF := fun env => some (true, env)
theorem qts_nil : PTs X [] (tT gTst) := ⟨fun pins s σ H Q I ⟨B, H0, R0, R, env, b, env', S, hf, k⟩ => by
  cases hf
  exact (pts_nil (X := X)).run pins s σ H Q I (k R H S (Ex.refl R) (Ex.refl H))⟩
theorem qts_one {c : Expr} (h : PT X c (tT ft)) : PTs X [c] (tT ft) := pts_one h
end
end Fw
namespace Fw
open PySem PySem.Spec PyProof.Rows L2 Evl

section
variable {X : Cx} {st : Stmt} {rest body : List Stmt} {e a b : Expr} {pos : Pos} {f g : SF} {fe : EF} {fw fa fb fc : WF} {ft : TF}
theorem qe_lc {elt tg iter : Expr} {ifs : List Expr} {scope : Scope} {own : List (Str × Nat)} {fi : AF} {gt : GF} {js vs : List Nat} (hc : X.calm = true) (hN : X.N.Nodup) (hi : PI X tg iter (tIb fi)) (ok : BlkOk X.N X.env.scope scope own)
    (hg : ∀ (s : Shared) (H : Hp) (C : Addr) (cl : List (Str × Addr)) (fp : List Addr), PG (X.blk s H scope (compEnvC scope cl C X.env) fp) tg (tG js gt)) (ht : ∀ (s : Shared) (H : Hp) (C : Addr) (cl : List (Str × Addr)) (fp : List Addr), PTs (X.blk s H scope (compEnvC scope cl C X.env) fp) ifs (tT ft))
    (he : ∀ (s : Shared) (H : Hp) (C : Addr) (cl : List (Str × Addr)) (fp : List Addr), PE (X.blk s H scope (compEnvC scope cl C X.env) fp) elt (tE fe)) (hjs : ∀ j ∈ js, j ∈ vs) (hv : own.map (·.2) = vs := by rfl) (hs : ∀ x, foldedSetIterable iter X.env x = pure x := by intro _; rfl) :
    PE X (.ListComp elt [⟨tg, iter, ifs, 0⟩] scope pos) (tE (eLc fi gt ft fe vs)) := PE.imp (pe_lc hc hN hi ok hg ht he hs) fun σ H Q q => by subst hv; exact lc_ok hjs q
theorem qs_setLc {i : Nat} {y : Str} {py : Pos} {elt tg iter : Expr} {ifs : List Expr} {scope : Scope} {own : List (Str × Nat)} {spos : Pos} {fi : AF} {gt : GF} {js vs : List Nat} (hc : X.calm = true) (hN : X.N.Nodup) (hy : X.N[i]? = some y) (hyl : X.env.scope.names.lookup y = some .local)
    (hsw : swapsWith (.ListComp elt [⟨tg, iter, ifs, 0⟩] scope pos) (some (.Name y py)) spos.line X.env = pure true) (hi : PI X tg iter (tIb fi)) (ok : BlkOk X.N X.env.scope scope own)
    (hg : ∀ (s : Shared) (H : Hp) (C : Addr) (cl : List (Str × Addr)) (fp : List Addr), PG (X.blk s H scope (compEnvC scope cl C X.env) fp) tg (tG js gt)) (ht : ∀ (s : Shared) (H : Hp) (C : Addr) (cl : List (Str × Addr)) (fp : List Addr), PTs (X.blk s H scope (compEnvC scope cl C X.env) fp) ifs (tT ft))
    (he : ∀ (s : Shared) (H : Hp) (C : Addr) (cl : List (Str × Addr)) (fp : List Addr), PE (X.blk s H scope (compEnvC scope cl C X.env) fp) elt (tE fe)) (hjs : ∀ j ∈ js, j ∈ vs) (hv : own.map (·.2) = vs := by rfl) (hs : ∀ x, foldedSetIterable iter X.env x = pure x := by intro _; rfl) :
    PS X (.Assign [.Name y py] (.ListComp elt [⟨tg, iter, ifs, 0⟩] scope pos) spos) (tS (sSet i (eLc fi gt ft fe vs))) :=
  PS.imp (ps_setLc hc hN hy hyl hsw hi ok hg ht he hs) fun D σ H q => by
    subst hv
    have q := setS_ok q
    exact lc_ok (Q := fun x H1 => gName i x σ H1 D.nx) hjs q
def eNeg (f : EF) : EF := fun env => match f env with
  | some (.int i, _, e1) => some (.int (-i), false, e1)
  | _ => none
theorem qe_neg (h : PE X a (tE fe)) : PE X (.UnaryOp .USub a pos) (tE (eNeg fe)) := PE.imp (pe_un un_neg h) fun σ H Q q => by
  obtain ⟨B, H0, R0, R, env, d, fr, env', S, hf, k⟩ := q
  unfold eNeg at hf
  split at hf
  · rename_i i fr' e1 h1
    cases hf
    refine ⟨B, H0, R0, R, env, .int i, fr', _, S, h1, fun x R1 H1 S1 i1 j1 r1 => ?_⟩
    have ex := top_int (r1.top S1)
    subst ex
    exact ⟨i, rfl, k _ R1 H1 S1 i1 j1 (.int _)⟩
  · cases hf
theorem chain_ok {r r' : R2} {g1 g2 : PyData → PyData → Option (PyData × Bool)} (h1 : OpD r g1) (h2 : OpD r' g2) {σ : L2.St} {H : Hp} {Q : VK} (q : tE (eChain g1 g2 fa fb fc) σ H Q) : tChain r r' (tW fa) (tW fb) (tW fc) σ H Q := by
  obtain ⟨B, H0, R0, R, env, d, fr, env', S, hf, k⟩ := q
  unfold eChain at hf
  split at hf
  · cases hf
  · rename_i x e1 g1'
    split at hf
    · cases hf
    · rename_i y e2 g2'
      refine ⟨B, H0, R0, R, env, x, e1, S, g1', fun u R1 H1 S1 i1 j1 t1 => ⟨B, H0, R0, R1, e1, y, e2, S1, g2', fun w R2 H2 S2 i2 j2 t2 => ?_⟩⟩
      split at hf
      · rename_i hg
        refine h1 R2 H2 u w x y _ _ _ S2.rh (top_mono i2 j2 t1) t2 hg (S2.cont fun z R3 H3 S3 i3 j3 r3 => ⟨true, top_bl (r3.top S3), iteT ?_⟩)
        split at hf
        · cases hf
        · rename_i z' e3 g3'
          split at hf
          · rename_i b hg2
            cases hf
            refine ⟨B, H0, R0, R3, e2, z', _, S3, g3', fun w' R4 H4 S4 i4 j4 t4 => ?_⟩
            exact h2 R4 H4 w w' y z' _ _ Q S4.rh (top_mono (i3.trans i4) (j3.trans j4) t2) t4 hg2 (S4.cont fun v R' H' S' e1 e2 r => k v R' H' S' ((((i1.trans i2).trans i3).trans i4).trans e1) ((((j1.trans j2).trans j3).trans j4).trans e2) r)
          · cases hf
      · rename_i hg
        cases hf
        refine h1 R2 H2 u w x y _ _ _ S2.rh (top_mono i2 j2 t1) t2 hg (S2.cont fun z R3 H3 S3 i3 j3 r3 => ⟨false, top_bl (r3.top S3), iteF ?_⟩)
        exact k _ R3 H3 S3 ((i1.trans i2).trans i3) ((j1.trans j2).trans j3) (.bl false)
      · cases hf
theorem qe_chain {op op' : CmpOp} {c : Expr} {r r' : R2} {g1 g2 : PyData → PyData → Option (PyData × Bool)} (ho : OpR X (compareOp op) r) (h1 : OpD r g1) (ho' : OpR X (compareOp op') r') (h2 : OpD r' g2) (ha : PE X a (tW fa)) (hb : PE X b (tW fb)) (hc : PE X c (tW fc))
    (hm : lastMarks [op, op'] [b, c] = false := by with_unfolding_all rfl) : PE X (.Compare a [op, op'] [b, c] pos) (tE (eChain g1 g2 fa fb fc)) := PE.imp (pe_chain ho ho' ha hb hc hm) fun σ H Q q => chain_ok h1 h2 q
theorem qt_chain {op op' : CmpOp} {c : Expr} {r r' : R2} {g1 g2 : PyData → PyData → Option (PyData × Bool)} (ho : OpR X (compareOp op) r) (h1 : OpD r g1) (ho' : OpR X (compareOp op') r') (h2 : OpD r' g2) (ha : PE X a (tW fa)) (hb : PE X b (tW fb)) (hc : PE X c (tW fc))
    (hm : lastMarks [op, op'] [b, c] = false := by with_unfolding_all rfl) : PT X (.Compare a [op, op'] [b, c] pos) (tT (tstE (eChain g1 g2 fa fb fc))) := PT.imp (pt_chain ho ho' ha hb hc hm) fun σ H Q q => chain_ok h1 h2 (tst_ok q)
end

/-! defs -/
def slotOf : Bool → PyData → PyData
  | true, .list ds => tokD ds
  | _, d => d
def envOf (N : Nat) (ms : List Bool) (ds : List PyData) : En := (List.zipWith slotOf ms ds).map (fun d => some (d, false)) ++ List.replicate (N - ds.length) none
def outR : Out → Option (PyData × Bool)
  | .rt d fr => some (d, fr)
  | .nx _ => some (.none, false)
  | _ => none
theorem slot_top {B R : Hp} {v : V} {d : PyData} (e : Ex R B) (h : Top R B v d) : SlotOk B R v (slotOf true d) := by
  rcases h with ⟨a, vs, ds, rfl, rfl, h1, h2⟩ | ⟨hn, h⟩
  · exact .inr ⟨a, vs, ds, rfl, rfl, h1, h2⟩
  · have : slotOf true d = d := by
      cases d with
      | list ds => exact absurd rfl (hn ds)
      | _ => rfl
    rw [this]
    exact .of h
theorem slot_dq {B R : Hp} {m : Bool} {v : V} {d : PyData} (e : Ex R B) (h : Dq R v d) : SlotOk B R v (slotOf m d) := by
  cases m with
  | true => exact slot_top e (top_of_dp e h)
  | false =>
    have : slotOf false d = d := by cases d <;> rfl
    rw [this]
    exact .of h
theorem args_slots {R H : Hp} (e : Ex R H) : ∀ {ms : List Bool} {vs : List V} {ds : List PyData}, ArgAll R H ms vs ds → ∀ (i : Nat) (d : PyData), (List.zipWith slotOf ms ds)[i]? = some d → ∃ v, vs[i]? = some v ∧ SlotOk H R v d
  | _, _, _, .nil, i, d, h => by simp at h
  | _, _, _, .sh p q, 0, d, h => by
    cases h
    exact ⟨_, rfl, slot_dq e p⟩
  | _, _, _, .rd p q, 0, d, h => by
    cases h
    exact ⟨_, rfl, slot_top e p⟩
  | _, _, _, .sh p q, i + 1, d, h => args_slots e q i d h
  | _, _, _, .rd p q, i + 1, d, h => args_slots e q i d h
theorem srel_start {H R : Hp} {N : List Str} {ms : List Bool} {vs : List V} {ds : List PyData} (e : Ex R H) (h : ArgAll R H ms vs ds) : SRel H H R R H (L2.start N vs) (envOf N.length ms ds) := by
  obtain ⟨hl, hm⟩ := h.len
  have zl : (List.zipWith slotOf ms ds).length = ds.length := by rw [List.length_zipWith, hm, Nat.min_self]
  have get : ∀ (i : Nat) (d : PyData) (b : Bool), (envOf N.length ms ds)[i]? = some (some (d, b)) → b = false ∧ (List.zipWith slotOf ms ds)[i]? = some d := fun i d b q => by
    unfold envOf at q
    by_cases hi : i < (List.zipWith slotOf ms ds).length
    · rw [List.getElem?_append_left (by rw [List.length_map]; exact hi), List.getElem?_map, List.getElem?_eq_getElem hi] at q
      cases q
      exact ⟨rfl, List.getElem?_eq_getElem hi⟩
    · rw [List.getElem?_append_right (by rw [List.length_map]; omega), List.getElem?_replicate] at q
      split at q <;> cases q
  refine ⟨e, Ex.refl R, Ex.refl H, Ex.refl H, fun b o q n => (by rw [n] at q; cases q), fun i d q => ?_, fun i d q => ?_, fun i j d x a _ q => ?_, ?_⟩
  · obtain ⟨_, h1⟩ := get i d false q
    obtain ⟨v, h2, h3⟩ := args_slots e h i d h1
    refine ⟨v, ?_, h3⟩
    have hi : i < vs.length := (List.getElem?_eq_some_iff.mp h2).1
    unfold L2.start
    rw [List.getElem?_append_left (by rw [List.length_map]; exact hi), List.getElem?_map, h2]
    rfl
  · have := (get i d true q).1
    cases this
  · have := (get i d true q).1
    cases this
  · unfold L2.start envOf
    simp only [List.length_append, List.length_map, List.length_replicate, hl, zl]
/-- a def that stands at a name of the module and keeps a pure promise -/
structure Has (P : Program) (w : World) (K : PySem.W.Frag) (mg : Str → Option Value) (base : Heap) (k : Nat) (x : Str) (g : List PyData → Option (PyData × Bool)) (ms : List Bool) : Prop where
  ex : ∃ (f : Addr) (fd : FuncData) (ps : List Str), mg x = some (.ref f) ∧ PySem.W.keepIn K (.ref f) = true ∧ Binds K fd ps [] ∧ FnOk P w K mg base CX0 k f fd ps (spD g ms)
section
variable {P : Program} {w : World} {K : PySem.W.Frag} {mg : Str → Option Value} {base : Heap}
theorem fn_pure {x qual : Str} {st : Stmt} {f : Addr} {fd : FuncData} {N ps : List Str} {k : Nat} {ms : List Bool} {g : List PyData → Option (PyData × Bool)} (F : Fun K x qual st f fd) (S : FnScope N ps (defScope st)) (hn : ps.length = ms.length)
    (hbody : ∀ (cdv : Value) (A : Around) (outer : List Env) (s : Shared) (H : Hp) (E : XK), Room k (A.deeper (envOfC qual (defScope st) s.heap.objs.size f cdv)) →
      ∃ fs : SF, PSs (cxOf CX0 P w K mg base N qual (defScope st) f cdv A outer s H E).nox (defBody st) (tS fs) ∧ ∀ ds d fr, ds.length = ms.length → g ds = some (d, fr) → outR (fs (envOf N.length ms ds)) = some (d, fr)) :
    FnOk P w K mg base CX0 (k + 1) f fd ps (spD g ms) := by
  refine F.ok S (fun vs H Q E h => ?_) (fun cdv A outer s H vs Q E hr h => ?_)
  · obtain ⟨R, ds, d, fr, _, ha, _⟩ := h
    obtain ⟨h1, h2⟩ := ha.len
    omega
  · obtain ⟨R, ds, d, fr, e, hd, hg, kq⟩ := h
    obtain ⟨fs, hp, hq⟩ := hbody cdv A outer s H E hr
    refine ⟨tS fs, hp, H, H, R, R, envOf N.length ms ds, srel_start e hd, ?_⟩
    have := hq ds d fr hd.len.2.symm hg
    cases ho : fs (envOf N.length ms ds) with
    | rt d' fr' =>
      rw [ho] at this
      cases this
      exact kq
    | nx e' =>
      rw [ho] at this
      cases this
      intro σ' R' H' S' _
      exact kq .non R' H' S'.r0 S'.h0 S'.rh S'.new .non
    | bk _ => rw [ho] at this; cases this
    | ct _ => rw [ho] at this; cases this
    | bad => rw [ho] at this; cases this
theorem has_mk {x : Str} {f : Addr} {fd : FuncData} {ps : List Str} {k : Nat} {ms : List Bool} {g : List PyData → Option (PyData × Bool)} (hm : mg x = some (.ref f)) (hk : PySem.W.keepIn K (.ref f) = true) (hb : Binds K fd ps []) (F : FnOk P w K mg base CX0 k f fd ps (spD g ms)) : Has P w K mg base k x g ms := ⟨f, fd, ps, hm, hk, hb, F⟩
end
section
variable {X : Cx}
theorem qe_callH {k : Nat} {ms : List Bool} {g : List PyData → Option (PyData × Bool)} {x : Str} {p pos : Pos} {e : Expr} {es : List Expr} {fa : AF} (h : Has X.prog X.w X.K X.mg X.base k x g ms) (hr : Room k X.A) (hg : Gl X x) (ha : PA X (e :: es) (tM ms fa))
    (hdb : (x == ("__debug__" : Str)) = false := by decide) (he : starEach (e :: es) X.env = (false, eval e X.env) :: starEach es X.env := by rfl) (hpl : (backTo pos (starEach es X.env)).any (·.1) = false := by rfl) :
    PE X (.Call (.Name x p) (e :: es) [] pos) (tE (eCall g fa)) := by
  obtain ⟨f, fd, ps, hm, hk, hb, F⟩ := h
  exact qe_call F hr hg hm hk hb pass0 ha hdb he hpl
end
end Fw
namespace Fw
open PySem PySem.Spec PyProof.Rows L2 Evl

def gLt := gCmp fun i j => decide (i < j)
def gLe := gCmp fun i j => decide (i ≤ j)
def gGt := gCmp fun i j => decide (j < i)
def gGe := gCmp fun i j => decide (j ≤ i)
theorem gLt_ok : OpD (rI0 fun i j => .bl (decide (i < j))) gLt := gCmp_ok fun i j => decide (i < j)
theorem gLe_ok : OpD (rI0 fun i j => .bl (decide (i ≤ j))) gLe := gCmp_ok fun i j => decide (i ≤ j)
theorem gGt_ok : OpD (rI0 fun i j => .bl (decide (j < i))) gGt := gCmp_ok fun i j => decide (j < i)
theorem gGe_ok : OpD (rI0 fun i j => .bl (decide (j ≤ i))) gGe := gCmp_ok fun i j => decide (j ≤ i)

section
variable {X : Cx} {e a b : Expr} {pos : Pos} {fe : EF} {fw fa fb : WF} {ft : TF}
/-! type(x) is T -/
theorem tyB_of {K : PySem.W.Frag} {H : Hp} {v : V} {d : PyData} {n : String} (h : Dq H v d) (e : tyN d = some n) : TyB K H v n := by
  cases h with
  | non => cases e; exact .non
  | bl b => cases e; exact .bl b
  | int i => cases e; exact .int i
  | str x => cases e; exact .str x
  | lst a b => cases e; exact .lst (.inl (.inl a))
  | tup a b => cases e; exact .tup (.inl (.inl a))
  | op a => cases e
  | fz ns a => cases e
def eTy (neg : Bool) (T : String) (f : WF) : EF := fun env => match f env with
  | none => none
  | some (d, e1) => match tyN d with
    | none => none
    | some n => some (.bool (if neg then !decide (n = T) else decide (n = T)), false, e1)
theorem ty_ok {r : R2} {neg : Bool} {T : String} (hr : ∀ (m : String) (H : Hp) (Q : VK), Q (.bl (if neg then !decide (m = T) else decide (m = T))) H → r (.ty m) (.ty T) H Q) {K : PySem.W.Frag} {σ : L2.St} {H : Hp} {Q : VK} (q : tE (eTy neg T fw) σ H Q) :
    tOp r (tCB (rTyp K) (tCons (tW fw) tNil)) (tC (.ty T)) σ H Q := by
  obtain ⟨B, H0, R0, R, env, d, fr, env', S, hf, k⟩ := q
  unfold eTy at hf
  split at hf
  · cases hf
  · rename_i d' e1 g1
    split at hf
    · cases hf
    · rename_i n hn1
      cases hf
      refine ⟨B, H0, R0, R, env, d', _, S, g1, fun v R1 H1 S1 i1 j1 t1 => ?_⟩
      exact ⟨v, n, rfl, tyB_of (top_dp S1.rh t1) hn1, hr n H1 Q (k _ R1 H1 S1 i1 j1 (.bl _))⟩
section
variable {T : String} {x : Str} {p p2 pos2 : Pos} (hgl : Gl X "type") (hm : X.mg "type" = none) (he : PE X e (tW fw)) (hg2 : Gl X x) (hm2 : X.mg x = none) (hv2 : bootBuiltins x = some (.type T)) (hn : x ≠ "__name__" := by decide) (hdb : (x == ("__debug__" : Str)) = false := by decide)
    (h1 : starEach [e] X.env = (false, eval e X.env) :: starEach [] X.env := by rfl)
include hgl hm he hg2 hm2 hv2
theorem qe_tyIs (hn : x ≠ "__name__" := by decide) (hdb : (x == ("__debug__" : Str)) = false := by decide) (h1 : starEach [e] X.env = (false, eval e X.env) :: starEach [] X.env := by rfl) :
    PE X (.Compare (.Call (.Name "type" p) [e] [] pos2) [.Is] [.Name x p2] pos) (tE (eTy false T fw)) :=
  PE.imp (pe_cmpR op_isTyB (pe_callTy call_type1 hgl hm (by decide +kernel) (pa_cons he pa_nil h1) (he := h1)) (pe_bltn (v := .ty T) hg2 hm2 hv2 rfl hn hdb) (nomark _)) fun σ H Q q => ty_ok (fun m H Q q => ⟨m, T, rfl, rfl, q⟩) q
theorem qe_tyIsNot (hn : x ≠ "__name__" := by decide) (hdb : (x == ("__debug__" : Str)) = false := by decide) (h1 : starEach [e] X.env = (false, eval e X.env) :: starEach [] X.env := by rfl) :
    PE X (.Compare (.Call (.Name "type" p) [e] [] pos2) [.IsNot] [.Name x p2] pos) (tE (eTy true T fw)) :=
  PE.imp (pe_cmpR op_notTyB (pe_callTy call_type1 hgl hm (by decide +kernel) (pa_cons he pa_nil h1) (he := h1)) (pe_bltn (v := .ty T) hg2 hm2 hv2 rfl hn hdb) (nomark _)) fun σ H Q q => ty_ok (fun m H Q q => ⟨m, T, rfl, rfl, q⟩) q
theorem qt_tyIs (hn : x ≠ "__name__" := by decide) (hdb : (x == ("__debug__" : Str)) = false := by decide) (h1 : starEach [e] X.env = (false, eval e X.env) :: starEach [] X.env := by rfl) :
    PT X (.Compare (.Call (.Name "type" p) [e] [] pos2) [.Is] [.Name x p2] pos) (tT (tstE (eTy false T fw))) :=
  PT.imp (pt_cmpR op_isTyB (pe_callTy call_type1 hgl hm (by decide +kernel) (pa_cons he pa_nil h1) (he := h1)) (pe_bltn (v := .ty T) hg2 hm2 hv2 rfl hn hdb) (nomark _)) fun σ H Q q => ty_ok (fun m H Q q => ⟨m, T, rfl, rfl, q⟩) (tst_ok q)
theorem qt_tyIsNot (hn : x ≠ "__name__" := by decide) (hdb : (x == ("__debug__" : Str)) = false := by decide) (h1 : starEach [e] X.env = (false, eval e X.env) :: starEach [] X.env := by rfl) :
    PT X (.Compare (.Call (.Name "type" p) [e] [] pos2) [.IsNot] [.Name x p2] pos) (tT (tstE (eTy true T fw))) :=
  PT.imp (pt_cmpR op_notTyB (pe_callTy call_type1 hgl hm (by decide +kernel) (pa_cons he pa_nil h1) (he := h1)) (pe_bltn (v := .ty T) hg2 hm2 hv2 rfl hn hdb) (nomark _)) fun σ H Q q => ty_ok (fun m H Q q => ⟨m, T, rfl, rfl, q⟩) (tst_ok q)
end
/-! list(range(n)), tuple(range(n)) -/
def eListRg (f : WF) : EF := fun env => match f env with
  | some (.int n, e1) => if 0 ≤ n ∧ n ≤ 1000 then some (.list (intsD 0 n.toNat), true, e1) else none
  | _ => none
def eTupleRg (f : WF) : EF := fun env => match f env with
  | some (.int n, e1) => if 0 ≤ n ∧ n ≤ 1000 then some (.tuple (intsD 0 n.toNat), false, e1) else none
  | _ => none
theorem rgV_dq {R : Hp} (n : Int) : DqAll R (rgV 0 n) (intsD 0 n.toNat) := by
  unfold rgV intsD
  rw [Int.sub_zero]
  generalize List.range n.toNat = l
  induction l with
  | nil => exact .nil
  | cons x r ih => exact .cons (.int _) ih
theorem qe_listRg {p p2 pos2 : Pos} (hc : X.calm = true) (hg : Gl X "list") (hm : X.mg "list" = none) (hg2 : Gl X "range") (hm2 : X.mg "range" = none) (ha : PE X a (tW fa)) (na : starEach [a] X.env = (false, eval a X.env) :: starEach [] X.env := by rfl)
    (nb : starEach [.Call (.Name "range" p2) [a] [] pos2] X.env = (false, eval (.Call (.Name "range" p2) [a] [] pos2) X.env) :: starEach [] X.env := by rfl) : PE X (.Call (.Name "list" p) [.Call (.Name "range" p2) [a] [] pos2] [] pos) (tE (eListRg fa)) :=
  PE.imp (pe_listRg hc hg hm (prg_1 hg2 hm2 ha na) nb) fun σ H Q q => by
    obtain ⟨B, H0, R0, R, env, d, fr, env', S, hf, k⟩ := q
    unfold eListRg at hf
    split at hf
    · rename_i n e1 g1
      split at hf
      · rename_i hz
        cases hf
        refine ⟨B, H0, R0, R, env, .int n, _, S, g1, fun v R1 H1 S1 i1 j1 t1 => ?_⟩
        have ev := top_int t1
        subst ev
        refine ⟨n, rfl, .of_le (by omega) (by omega) (by omega) (by omega), fun q hq => ?_⟩
        exact Cont.nowL S1.rh (S1.cont fun v R' H' S' e1 e2 r => k v R' H' S' (i1.trans e1) (j1.trans e2) r) hq (rgV_dq n)
      · cases hf
    · cases hf
theorem qe_tupleRg {p p2 pos2 : Pos} (hc : X.calm = true) (hg : Gl X "tuple") (hm : X.mg "tuple" = none) (hg2 : Gl X "range") (hm2 : X.mg "range" = none) (ha : PE X a (tW fa)) (na : starEach [a] X.env = (false, eval a X.env) :: starEach [] X.env := by rfl)
    (nb : starEach [.Call (.Name "range" p2) [a] [] pos2] X.env = (false, eval (.Call (.Name "range" p2) [a] [] pos2) X.env) :: starEach [] X.env := by rfl) : PE X (.Call (.Name "tuple" p) [.Call (.Name "range" p2) [a] [] pos2] [] pos) (tE (eTupleRg fa)) :=
  PE.imp (pe_tupRg hc hg hm (prg_1 hg2 hm2 ha na) nb) fun σ H Q q => by
    obtain ⟨B, H0, R0, R, env, d, fr, env', S, hf, k⟩ := q
    unfold eTupleRg at hf
    split at hf
    · rename_i n e1 g1
      split at hf
      · rename_i hz
        cases hf
        refine ⟨B, H0, R0, R, env, .int n, _, S, g1, fun v R1 H1 S1 i1 j1 t1 => ?_⟩
        have ev := top_int t1
        subst ev
        refine ⟨n, rfl, .of_le (by omega) (by omega) (by omega) (by omega), fun q hq => ?_⟩
        exact Cont.nowT S1.rh (S1.cont fun v R' H' S' e1 e2 r => k v R' H' S' (i1.trans e1) (j1.trans e2) r) hq (rgV_dq n)
      · cases hf
    · cases hf
/-! sorted(list of ints), sum, all -/
def intsOf : List PyData → Option (List Int)
  | [] => some []
  | .int i :: r => (intsOf r).map (i :: ·)
  | _ :: _ => none
theorem intsOf_map (ns : List Int) : intsOf (ns.map PyData.int) = some ns := by
  induction ns with
  | nil => rfl
  | cons x r ih => simp only [List.map_cons, intsOf, ih, Option.map_some]
theorem intsOf_eq : ∀ {ds : List PyData} {ns : List Int}, intsOf ds = some ns → ds = ns.map PyData.int
  | [], ns, h => by cases h; rfl
  | .int i :: r, ns, h => by
    simp only [intsOf] at h
    cases hr : intsOf r with
    | none => rw [hr] at h; cases h
    | some ms =>
      rw [hr] at h
      cases h
      rw [intsOf_eq hr]
      rfl
  | .none :: _, _, h => by cases h
  | .bool _ :: _, _, h => by cases h
  | .str _ :: _, _, h => by cases h
  | .list _ :: _, _, h => by cases h
  | .tuple _ :: _, _, h => by cases h
  | .dict _ :: _, _, h => by cases h
def boolsOf : List PyData → Option (List Bool)
  | [] => some []
  | .bool i :: r => (boolsOf r).map (i :: ·)
  | _ :: _ => none
theorem boolsOf_map (ns : List Bool) : boolsOf (ns.map PyData.bool) = some ns := by
  induction ns with
  | nil => rfl
  | cons x r ih => simp only [List.map_cons, boolsOf, ih, Option.map_some]
theorem boolsOf_eq : ∀ {ds : List PyData} {ns : List Bool}, boolsOf ds = some ns → ds = ns.map PyData.bool
  | [], ns, h => by cases h; rfl
  | .bool i :: r, ns, h => by
    simp only [boolsOf] at h
    cases hr : boolsOf r with
    | none => rw [hr] at h; cases h
    | some ms =>
      rw [hr] at h
      cases h
      rw [boolsOf_eq hr]
      rfl
  | .none :: _, _, h => by cases h
  | .int _ :: _, _, h => by cases h
  | .str _ :: _, _, h => by cases h
  | .list _ :: _, _, h => by cases h
  | .tuple _ :: _, _, h => by cases h
  | .dict _ :: _, _, h => by cases h
def insI (x : Int) : List Int → List Int
  | [] => [x]
  | y :: r => if x ≤ y then x :: y :: r else y :: insI x r
def sortI : List Int → List Int
  | [] => []
  | x :: r => insI x (sortI r)
theorem insI_perm (x : Int) : ∀ r : List Int, (insI x r).Perm (x :: r)
  | [] => .refl _
  | y :: r => by
    unfold insI
    split
    · exact .refl _
    · exact ((insI_perm x r).cons y).trans (.swap x y r)
theorem sortI_perm : ∀ r : List Int, (sortI r).Perm r
  | [] => .refl _
  | x :: r => (insI_perm x (sortI r)).trans ((sortI_perm r).cons x)
theorem insI_sorted (x : Int) : ∀ {r : List Int}, r.Pairwise (· ≤ ·) → (insI x r).Pairwise (· ≤ ·)
  | [], _ => by simp [insI]
  | y :: r, h => by
    unfold insI
    have h' := List.pairwise_cons.mp h
    split
    · rename_i hxy
      refine List.pairwise_cons.mpr ⟨fun z hz => ?_, h⟩
      rcases List.mem_cons.mp hz with e | hz
      · subst e; exact hxy
      · exact Int.le_trans hxy (h'.1 z hz)
    · rename_i hxy
      refine List.pairwise_cons.mpr ⟨fun z hz => ?_, insI_sorted x h'.2⟩
      rcases List.mem_cons.mp ((insI_perm x r).mem_iff.mp hz) with e | hz
      · subst e; omega
      · exact h'.1 z hz
theorem sortI_sorted : ∀ r : List Int, (sortI r).Pairwise (· ≤ ·)
  | [] => .nil
  | x :: r => insI_sorted x (sortI_sorted r)
theorem sorted_one : ∀ {a b : List Int}, a.Perm b → a.Pairwise (· ≤ ·) → b.Pairwise (· ≤ ·) → a = b
  | [], b, h, _, _ => by rw [List.nil_perm.mp h]
  | x :: r, [], h, _, _ => by simp at h
  | x :: r, y :: t, h, ha, hb => by
    have ha' := List.pairwise_cons.mp ha
    have hb' := List.pairwise_cons.mp hb
    have e : x = y := by
      have h1 : x ∈ y :: t := h.mem_iff.mp List.mem_cons_self
      have h2 : y ∈ x :: r := h.mem_iff.mpr List.mem_cons_self
      have l1 : y ≤ x := by
        rcases List.mem_cons.mp h1 with e | m
        · omega
        · exact hb'.1 x m
      have l2 : x ≤ y := by
        rcases List.mem_cons.mp h2 with e | m
        · omega
        · exact ha'.1 y m
      omega
    subst e
    rw [sorted_one (List.Perm.cons_inv h) ha'.2 hb'.2]
def gSorted : List PyData → Option (PyData × Bool)
  | [.list ds] => (intsOf ds).bind fun ns => if ns.length < 64 then some (.list ((sortI ns).map .int), true) else none
  | _ => none
theorem gSorted_ok {K : PySem.W.Frag} : CallD (rSorted K) gSorted := by
  intro R H vs ds d fr Q e t hg k
  unfold gSorted at hg
  split at hg
  · rename_i es
    cases hn : intsOf es with
    | none => rw [hn] at hg; cases hg
    | some ns =>
      rw [hn] at hg
      simp only [Option.bind_some] at hg
      split at hg
      · rename_i hl
        cases hg
        obtain ⟨v, rfl, t1⟩ := tops1 t
        obtain ⟨a, vs, rfl, h1, h2⟩ := top_list t1
        rw [intsOf_eq hn] at h2
        have ev := dpa_ints h2
        subst ev
        refine ⟨a, ns, rfl, .inl (.inl h1), hl, fun ns' p hp hs hq => ?_⟩
        have en : ns' = sortI ns := sorted_one (hp.trans (sortI_perm ns).symm) hs (sortI_sorted ns)
        subst en
        exact k.nowL e hq (dpa_of_ints _)
      · cases hg
  · cases hg
def gSum : List PyData → Option (PyData × Bool)
  | [.list ds] => (intsOf ds).map fun ns => (.int ns.sum, false)
  | _ => none
theorem gSum_ok {K : PySem.W.Frag} : CallD (rSum K) gSum := by
  intro R H vs ds d fr Q e t hg k
  unfold gSum at hg
  split at hg
  · rename_i es
    cases hn : intsOf es with
    | none => rw [hn] at hg; cases hg
    | some ns =>
      rw [hn] at hg
      cases hg
      obtain ⟨v, rfl, t1⟩ := tops1 t
      obtain ⟨a, vs, rfl, h1, h2⟩ := top_list t1
      rw [intsOf_eq hn] at h2
      have ev := dpa_ints h2
      subst ev
      exact ⟨a, ns, rfl, .inl (.inl h1), k.now e (.int _)⟩
  · cases hg
def gAll : List PyData → Option (PyData × Bool)
  | [.list ds] => (boolsOf ds).map fun ns => (.bool (ns.all id), false)
  | _ => none
theorem gAll_ok {K : PySem.W.Frag} : CallD (rAll K) gAll := by
  intro R H vs ds d fr Q e t hg k
  unfold gAll at hg
  split at hg
  · rename_i es
    cases hn : boolsOf es with
    | none => rw [hn] at hg; cases hg
    | some ns =>
      rw [hn] at hg
      cases hg
      obtain ⟨v, rfl, t1⟩ := tops1 t
      obtain ⟨a, vs, rfl, h1, h2⟩ := top_list t1
      rw [boolsOf_eq hn] at h2
      have ev := dpa_bls h2
      subst ev
      exact ⟨a, ns, rfl, .inl (.inl h1), k.now e (.bl _)⟩
  · cases hg
/-! statements on owned lists -/
theorem qs_app {i : Nat} {e0 : Expr} (h : PS X (.Expr e0 pos) (tDrop (tBM X.K "list" rAppend (tVar i) (tCons (tE fe) tNil)))) : PS X (.Expr e0 pos) (tS (sApp i fe)) := PS.imp h fun D σ H q => app_ok q
theorem qs_setIx {tg : Expr} {i : Nat} (h : PS X (.Assign [tg] e pos) (tAsg (tE fe) (L2.gSub (tVar i) (tW fw) rSetL))) (hk : ∀ env r, fw env = some r → r.2 = env) : PS X (.Assign [tg] e pos) (tS (sSetIx i fe fw)) := PS.imp h fun D σ H q => setIx_ok hk q
theorem wVar_same {i : Nat} {env : En} {r : PyData × En} (h : wVar i env = some r) : r.2 = env := by
  unfold wVar at h
  split at h
  · split at h
    · cases h; rfl
    · cases h; rfl
  · cases h
end
end Fw
namespace Fw
open PySem PySem.Spec PyProof.Rows L2 Evl

abbrev GFn := List PyData → Option (PyData × Bool)
/-- what a script's cell is, for the datum that stands for the script -/
def gcL : GFn
  | [.dict [(.list l, .none)], .int k] => (intsOf l).bind fun ns => if 0 ≤ k then some (.int (ns.getD k.toNat 0), false) else none
  | _ => none
def gcK (a0 : Addr) (ns : List Int) : GFn
  | [.dict [(.int z, .none)], .int k] => if z = Int.ofNat a0 ∧ 0 ≤ k then some (.int (ns.getD k.toNat 0), false) else none
  | _ => none
def CellOk (ns : List Int) (sd : PyData) (gc : GFn) : Prop := tokOf sd = none ∧ ∀ k : Int, 0 ≤ k → gc [sd, .int k] = some (.int (ns.getD k.toNat 0), false)
theorem cell_L (ns : List Int) : CellOk ns (.dict [(.list (ns.map .int), .none)]) gcL := ⟨rfl, fun k hk => by
  unfold gcL
  simp only [intsOf_map, Option.bind_some]
  rw [if_pos hk]⟩
theorem cell_K (a0 : Addr) (ns : List Int) : CellOk ns (.dict [(.int (Int.ofNat a0), .none)]) (gcK a0 ns) := ⟨rfl, fun k hk => by
  show (if Int.ofNat a0 = Int.ofNat a0 ∧ 0 ≤ k then some (PyData.int (ns.getD k.toNat 0), false) else none) = _
  rw [if_pos ⟨rfl, hk⟩]⟩
def CellG (K : PySem.W.Frag) (gc : GFn) : Prop := ∀ (R H : Hp) (vs : List V) (ds : List PyData) (d : PyData) (fr : Bool), Ex R H → ArgAll R H [false, true] vs ds → gc ds = some (d, fr) →
  ∃ (a : Addr) (ns : List Int) (k : Int), vs = [.ref a, .int k] ∧ SqL K H a (ns.map V.int) ∧ 0 ≤ k ∧ d = .int (ns.getD k.toNat 0) ∧ fr = false
theorem args_cell {R H : Hp} {vs : List V} {x : PyData} {k : Int} (e : Ex R H) (h : ArgAll R H [false, true] vs [x, .int k]) : ∃ v, vs = [v, .int k] ∧ Dq R v x := by
  cases h with
  | sh h1 h2 =>
    cases h2 with
    | sh h3 h4 =>
      cases h4
      cases h3
      exact ⟨_, rfl, h1⟩
    | rd h3 h4 =>
      cases h4
      have e1 := top_int h3
      subst e1
      exact ⟨_, rfl, h1⟩
theorem cellG_L {K : PySem.W.Frag} : CellG K gcL := fun R H vs ds d fr e hd hg => by
  unfold gcL at hg
  split at hg
  · rename_i l k
    cases hn : intsOf l with
    | none => rw [hn] at hg; cases hg
    | some ns =>
      rw [hn] at hg
      simp only [Option.bind_some] at hg
      split at hg
      · rename_i hk
        cases hg
        obtain ⟨v, rfl, h1⟩ := args_cell e hd
        cases h1 with
        | fz ms h5 =>
          rw [intsOf_map] at hn
          cases hn
          exact ⟨_, ns, k, rfl, .inl (.inr ⟨_, e _ _ h5⟩), hk, rfl, rfl⟩
      · cases hg
  · cases hg
theorem cellG_K {K : PySem.W.Frag} {a0 : Addr} {ns : List Int} (hs : ∀ H, SqL K H a0 (ns.map V.int)) : CellG K (gcK a0 ns) := fun R H vs ds d fr e hd hg => by
  unfold gcK at hg
  split at hg
  · rename_i z k
    split at hg
    · rename_i hk
      cases hg
      obtain ⟨v, rfl, h1⟩ := args_cell e hd
      cases h1 with
      | op a =>
        have ea : a = a0 := Int.ofNat.inj hk.1
        subst ea
        exact ⟨a, ns, k, rfl, hs H, hk.2, rfl, rfl⟩
    · cases hg
  · cases hg
section
variable {P : Program} {w : World} {K : PySem.W.Frag} {mg : Str → Option Value} {base : Heap}
theorem cell_at_ok {ns : List Int} {k : Int} (hk : 0 ≤ k) (hlt : k < ((ns.map V.int).length : Nat)) : atI (ns.map V.int) k = some (.int (ns.getD k.toNat 0)) := by
  have hl : k.toNat < ns.length := by
    rw [List.length_map] at hlt
    omega
  refine at_of (j := k.toNat) (by omega) ?_
  rw [List.getElem?_map, List.getElem?_eq_getElem hl, List.getD_eq_getElem?_getD, List.getElem?_eq_getElem hl]
  rfl
theorem cell_out {ns : List Int} {k : Int} (hk : 0 ≤ k) (hlt : ¬ k < ((ns.map V.int).length : Nat)) : ns.getD k.toNat 0 = 0 := by
  rw [List.length_map] at hlt
  rw [List.getD_eq_getElem?_getD, List.getElem?_eq_none (by omega)]
  rfl
/-- the law's promise from a promise for each script's datum -/
def spScr (a0 : Addr) (sd : PyData) : Sp := fun vs H Q _ => vs = [.ref a0] ∧ Dq H (.ref a0) sd ∧ ∀ H', Q (.bl true) H'
def Scr (K : PySem.W.Frag) (H : Hp) (a : Addr) (ns : List Int) : Prop := (∃ o, H a = some (.frz o (.lst (ns.map V.int)))) ∨ ∀ H', SqL K H' a (ns.map V.int)
theorem scr_of {K : PySem.W.Frag} {H : Hp} {a : Addr} {ns : List Int} (hO : Only H) (hS : SqL K H a (ns.map V.int)) : Scr K H a ns := by
  rcases hS with (hS | ⟨o, hS⟩) | hS
  · rcases hO a with z | ⟨o, xs, z⟩
    · rw [hS] at z
      cases z
    · rw [hS] at z
      cases z
  · exact .inl ⟨o, hS⟩
  · exact .inr fun H' => .inr hS
def spLaw (K : PySem.W.Frag) : Sp := fun vs H Q _ => ∃ (a : Addr) (ns : List Int), vs = [.ref a] ∧ Scr K H a ns ∧ ns.length ≤ 63 ∧ ∀ H', Q (.bl true) H'
theorem fn_law {k : Nat} {f : Addr} {fd : FuncData} {x : Str}
    (h : ∀ (a0 : Addr) (ns : List Int) (sd : PyData) (gc : GFn), CellOk ns sd gc → CellG K gc → ns.length ≤ 63 → FnOk P w K mg base CX0 k f fd [x] (spScr a0 sd)) : FnOk P w K mg base CX0 k f fd [x] (spLaw K) := by
  refine ⟨fun vs H Q E hs => ?_, fun A outer s H args us vs Q E hr he hb hv hs => ?_⟩
  · obtain ⟨a, ns, rfl, _⟩ := hs
    rfl
  · obtain ⟨a, ns, rfl, hS, hl, q⟩ := hs
    rcases hS with ⟨o, hS⟩ | hS
    · exact (h a ns _ _ (cell_L ns) cellG_L hl).run A outer s H args us [.ref a] Q E hr he hb hv ⟨rfl, .fz ns hS, q⟩
    · exact (h a ns _ _ (cell_K a ns) (cellG_K hS) hl).run A outer s H args us [.ref a] Q E hr he hb hv ⟨rfl, .op a, q⟩
theorem fn_scr {k : Nat} {f : Addr} {fd : FuncData} {x : Str} {a0 : Addr} {sd : PyData} {g : GFn} {fr : Bool} (F : FnOk P w K mg base CX0 k f fd [x] (spD g [false])) (hg : g [sd] = some (.bool true, fr)) : FnOk P w K mg base CX0 k f fd [x] (spScr a0 sd) := by
  refine F.imp fun vs H Q E hs => ?_
  obtain ⟨rfl, hd, q⟩ := hs
  refine ⟨H, [sd], .bool true, fr, Ex.refl H, .sh hd .nil, hg, fun v R' H' _ _ _ _ r => ?_⟩
  cases fr with
  | false =>
    cases r
    exact q H'
  | true =>
    obtain ⟨_, _, _, _, h, _⟩ := r
    cases h
end
end Fw
namespace Fw
open PySem PySem.Spec PyProof.Rows L2 Evl
section
variable {env e1 e2 e3 : En} {d x y z : PyData} {o fr fr1 fr2 b b1 b2 : Bool} {i n : Nat} {f g : EF} {fa fb fc : WF} {c c1 c2 : TF} {as bs : AF} {ds : List PyData}
theorem v_wt (h : env[i]? = some (some (tokD ds, o))) : wVar i env = some (.list ds, env) := by
  unfold wVar
  rw [h]
  rfl
theorem v_w (h : env[i]? = some (some (d, o))) (ht : tokOf d = none) : wVar i env = some (d, env) := by
  unfold wVar
  rw [h]
  simp only
  rw [ht]
theorem v_s (h : env[i]? = some (some (d, false))) (ht : tokOf d = none) : eVar i env = some (d, false, env) := by
  unfold eVar
  rw [h]
  simp only
  rw [ht]
theorem v_o (h : env[i]? = some (some (d, true))) (ht : tokOf d = none) : eVar i env = some (d, false, env.set i (some (d, false))) := by
  unfold eVar
  rw [h]
  simp only
  rw [ht]
theorem v_m (h : env[i]? = some (some (d, o))) (ht : tokOf d = none) : eMv i env = some (d, o, env.set i none) := by
  unfold eMv
  rw [h]
  simp only
  rw [ht]
theorem v_int (h : env[i]? = some (some (tokD ds, o))) : iNm i env = some (ds, env) := by
  unfold iNm
  rw [h]
  rfl
theorem v_ins (h : env[i]? = some (some (.list ds, false))) : iNm i env = some (ds, env) := by
  unfold iNm
  rw [h]
  rfl
theorem v_ino (h : env[i]? = some (some (.list ds, true))) : iNm i env = some (ds, env.set i (some (.list ds, false))) := by
  unfold iNm
  rw [h]
  rfl
theorem v_c : eC d env = some (d, false, env) := rfl
theorem v_wc : wOf (eC d) env = some (d, env) := rfl
theorem v_of (h : f env = some (d, fr, e1)) : wOf f env = some (d, e1) := by
  unfold wOf
  rw [h]
  rfl
theorem v_bin {g : PyData → PyData → Option (PyData × Bool)} (h1 : fa env = some (x, e1)) (h2 : fb e1 = some (y, e2)) (h3 : g x y = some (d, fr)) : eBin g fa fb env = some (d, fr, e2) := by
  unfold eBin
  rw [h1]
  simp only
  rw [h2]
  simp only
  rw [h3]
theorem v_an : aNil env = some ([], env) := rfl
theorem v_ac (h1 : f env = some (d, fr, e1)) (h2 : as e1 = some (ds, e2)) : aCons f as env = some (d :: ds, e2) := by
  unfold aCons
  rw [h1]
  simp only
  rw [h2]
theorem v_bc (h1 : fa env = some (d, e1)) (h2 : as e1 = some (ds, e2)) : bCons fa as env = some (d :: ds, e2) := by
  unfold bCons
  rw [h1]
  simp only
  rw [h2]
theorem v_call {g : GFn} (h1 : as env = some (ds, e1)) (h2 : g ds = some (d, fr)) : eCall g as env = some (d, fr, e1) := by
  unfold eCall
  rw [h1]
  simp only
  rw [h2]
theorem v_callB {g : GFn} (h1 : as env = some (ds, e1)) (h2 : g ds = some (d, fr)) : eCallB g as env = some (d, fr, e1) := by
  unfold eCallB
  rw [h1]
  simp only
  rw [h2]
theorem v_lst (h1 : as env = some (ds, e1)) (hl : ds.length ≤ 1000) : eLst as env = some (.list ds, true, e1) := by
  unfold eLst
  rw [h1]
  simp only
  rw [if_pos hl]
theorem v_tup (h1 : as env = some (ds, e1)) (hl : ds.length ≤ 1000) : eTup as env = some (.tuple ds, false, e1) := by
  unfold eTup
  rw [h1]
  simp only
  rw [if_pos hl]
theorem v_neg {i : Int} (h : f env = some (.int i, fr, e1)) : eNeg f env = some (.int (-i), false, e1) := by
  unfold eNeg
  rw [h]
theorem v_not (h : f env = some (.bool b, fr, e1)) : eNot f env = some (.bool (!b), false, e1) := by
  unfold eNot
  rw [h]
theorem v_and (h : f env = some (.bool b, fr, e1)) (h2 : b = true → g e1 = some (.bool b2, false, e1)) : eAnd f g env = some (.bool (b && b2), false, e1) := by
  unfold eAnd
  rw [h]
  cases b with
  | true => exact h2 rfl
  | false => rfl
theorem v_or (h : f env = some (.bool b, fr, e1)) (h2 : b = false → g e1 = some (.bool b2, false, e1)) : eOr f g env = some (.bool (b || b2), false, e1) := by
  unfold eOr
  rw [h]
  cases b with
  | false => exact h2 rfl
  | true => rfl
theorem v_if (h : c env = some (b, e1)) (h1 : b = true → f e1 = some (x, false, e2)) (h2 : b = false → g e1 = some (y, false, e2)) : eIf c f g env = some (if b = true then x else y, false, e2) := by
  unfold eIf
  rw [h]
  cases b with
  | true => exact h1 rfl
  | false => exact h2 rfl
theorem v_isi {T n : String} (h : fa env = some (d, e1)) (h1 : tyN d = some n) (h2 : kitB n T = some b) : eIsi T fa env = some (.bool b, false, e1) := by
  unfold eIsi
  rw [h]
  simp only
  rw [h1]
  simp only
  rw [h2]
theorem v_ty {T n : String} {neg : Bool} (h : fa env = some (d, e1)) (h1 : tyN d = some n) : eTy neg T fa env = some (.bool (if neg then !decide (n = T) else decide (n = T)), false, e1) := by
  unfold eTy
  rw [h]
  simp only
  rw [h1]
theorem v_chain {g1 g2 : PyData → PyData → Option (PyData × Bool)} (h1 : fa env = some (x, e1)) (h2 : fb e1 = some (y, e2)) (h3 : g1 x y = some (.bool b1, false)) (h4 : b1 = true → fc e2 = some (z, e2)) (h5 : b1 = true → g2 y z = some (.bool b2, false)) :
    eChain g1 g2 fa fb fc env = some (.bool (b1 && b2), false, e2) := by
  unfold eChain
  rw [h1]
  simp only
  rw [h2]
  simp only
  rw [h3]
  cases b1 with
  | false => rfl
  | true =>
    simp only
    rw [h4 rfl]
    simp only
    rw [h5 rfl]
    rfl
theorem v_tst (h : f env = some (.bool b, fr, e1)) : tstE f env = some (b, e1) := by
  unfold tstE
  rw [h]
theorem v_cn (h : c env = some (b, e1)) : cNot c env = some (!b, e1) := by
  unfold cNot
  rw [h]
theorem v_ca (h : c1 env = some (b1, e1)) (h2 : b1 = true → c2 e1 = some (b2, e1)) : cAnd c1 c2 env = some (b1 && b2, e1) := by
  unfold cAnd
  rw [h]
  cases b1 with
  | true => exact h2 rfl
  | false => rfl
theorem v_co (h : c1 env = some (b1, e1)) (h2 : b1 = false → c2 e1 = some (b2, e1)) : cOr c1 c2 env = some (b1 || b2, e1) := by
  unfold cOr
  rw [h]
  cases b1 with
  | false => exact h2 rfl
  | true => rfl
theorem v_on : oNo env = some (none, env) := rfl
theorem v_oy {i : Int} (h : fa env = some (.int i, e1)) : oYes fa env = some (some i, e1) := by
  unfold oYes
  rw [h]
theorem v_slL {l h : OF} {lo hi : Option Int} (h1 : fa env = some (.list ds, e1)) (h2 : l e1 = some (lo, e2)) (h3 : h e2 = some (hi, e3)) : eSl fa l h env = some (.list (cutA ds lo hi), true, e3) := by
  unfold eSl
  rw [h1]
  simp only
  rw [h2]
  simp only
  rw [h3]
theorem v_slT {l h : OF} {lo hi : Option Int} (h1 : fa env = some (.tuple ds, e1)) (h2 : l e1 = some (lo, e2)) (h3 : h e2 = some (hi, e3)) : eSl fa l h env = some (.tuple (cutA ds lo hi), false, e3) := by
  unfold eSl
  rw [h1]
  simp only
  rw [h2]
  simp only
  rw [h3]
theorem v_lrg {n : Int} (h : fa env = some (.int n, e1)) (h0 : 0 ≤ n) (h1 : n ≤ 1000) : eListRg fa env = some (.list (intsD 0 n.toNat), true, e1) := by
  unfold eListRg
  rw [h]
  simp only
  rw [if_pos ⟨h0, h1⟩]
theorem v_trg {n : Int} (h : fa env = some (.int n, e1)) (h0 : 0 ≤ n) (h1 : n ≤ 1000) : eTupleRg fa env = some (.tuple (intsD 0 n.toNat), false, e1) := by
  unfold eTupleRg
  rw [h]
  simp only
  rw [if_pos ⟨h0, h1⟩]
/-! values of the operators -/
theorem g_add {i j : Int} : gAdd (.int i) (.int j) = some (.int (i + j), false) := rfl
theorem g_addL {a b : List PyData} (h : a.length + b.length ≤ 1000) : gAdd (.list a) (.list b) = some (.list (a ++ b), true) := by
  show (if _ then _ else _) = _
  rw [if_pos h]
theorem g_addT {a b : List PyData} (h : a.length + b.length ≤ 1000) : gAdd (.tuple a) (.tuple b) = some (.tuple (a ++ b), false) := by
  show (if _ then _ else _) = _
  rw [if_pos h]
theorem g_sub {i j : Int} : Fw.gSub (.int i) (.int j) = some (.int (i - j), false) := rfl
theorem g_mulr {i j : Int} (h : -(2 ^ 64) < j ∧ j < 2 ^ 64) : gMul (.int i) (.int j) = some (.int (i * j), false) := by
  show (if _ then _ else _) = _
  rw [if_pos (Or.inr h)]
theorem g_mull {i j : Int} (h : -(2 ^ 64) < i ∧ i < 2 ^ 64) : gMul (.int i) (.int j) = some (.int (i * j), false) := by
  show (if _ then _ else _) = _
  rw [if_pos (Or.inl h)]
theorem g_rep {a : List PyData} {k : Int} (h : -(2 ^ 63) ≤ k ∧ k < 2 ^ 63 ∧ a.length * k.toNat ≤ 1000) : gMul (.list a) (.int k) = some (.list (List.replicate k.toNat a).flatten, true) := by
  show (if _ then _ else _) = _
  rw [if_pos h]
theorem g_mod {i j : Int} (h : 0 < j) : gMod (.int i) (.int j) = some (.int (i % j), false) := by
  show (if _ then _ else _) = _
  rw [if_pos h]
theorem g_div {i j : Int} (h : 0 < j ∧ j < 1073741824) : gDiv (.int i) (.int j) = some (.int (i / j), false) := by
  show (if _ then _ else _) = _
  rw [if_pos h]
theorem g_pow {i j : Int} (h : 0 ≤ j ∧ j ≤ 1000 ∧ i.natAbs < 2 ^ 64) : gPow (.int i) (.int j) = some (.int (i ^ j.toNat), false) := by
  show (if _ then _ else _) = _
  rw [if_pos h]
theorem g_lt {i j : Int} : gLt (.int i) (.int j) = some (.bool (decide (i < j)), false) := rfl
theorem g_le {i j : Int} : gLe (.int i) (.int j) = some (.bool (decide (i ≤ j)), false) := rfl
theorem g_gt {i j : Int} : gGt (.int i) (.int j) = some (.bool (decide (j < i)), false) := rfl
theorem g_ge {i j : Int} : gGe (.int i) (.int j) = some (.bool (decide (j ≤ i)), false) := rfl
theorem g_eq {i j : Int} : gEq (.int i) (.int j) = some (.bool (decide (i = j)), false) := rfl
theorem g_ne {i j : Int} : gNe (.int i) (.int j) = some (.bool (!decide (i = j)), false) := rfl
theorem g_ixL {i : Int} (h : atI ds i = some d) : gIx (.list ds) (.int i) = some (d, false) := by
  show (atI ds i).map _ = _
  rw [h]
  rfl
theorem g_ixT {i : Int} (h : atI ds i = some d) : gIx (.tuple ds) (.int i) = some (d, false) := by
  show (atI ds i).map _ = _
  rw [h]
  rfl
/-! the same with the ends told apart, for the tactic -/
theorem x_wt (h : env[i]? = some (some (tokD ds, o))) (hd : PyData.list ds = d) (he : env = e1) : wVar i env = some (d, e1) := by
  rw [v_wt h, hd, he]
theorem x_w (h : env[i]? = some (some (d, o))) (ht : tokOf d = none) (he : env = e1) : wVar i env = some (d, e1) := by
  rw [v_w h ht, he]
theorem x_s (h : env[i]? = some (some (d, false))) (ht : tokOf d = none) (hf : false = fr) (he : env = e1) : eVar i env = some (d, fr, e1) := by
  rw [v_s h ht, hf, he]
theorem x_o (h : env[i]? = some (some (d, true))) (ht : tokOf d = none) (hf : false = fr) (he : env.set i (some (d, false)) = e1) : eVar i env = some (d, fr, e1) := by
  subst hf
  rw [v_o h ht, he]
theorem x_m (h : env[i]? = some (some (d, fr))) (ht : tokOf d = none) (he : env.set i none = e1) : eMv i env = some (d, fr, e1) := by
  rw [v_m h ht, he]
theorem x_c (hd : x = d) (hf : false = fr) (he : env = e1) : eC x env = some (d, fr, e1) := by
  rw [v_c, hd, hf, he]
theorem x_wc (hd : x = d) (he : env = e1) : wOf (eC x) env = some (d, e1) := by
  rw [v_wc, hd, he]
theorem x_an (hd : [] = ds) (he : env = e1) : aNil env = some (ds, e1) := by
  rw [v_an, hd, he]
theorem x_on {oo : Option Int} (hd : none = oo) (he : env = e1) : oNo env = some (oo, e1) := by
  rw [v_on, hd, he]
theorem x_int {es : List PyData} (h : env[i]? = some (some (tokD ds, o))) (hd : ds = es) (he : env = e1) : iNm i env = some (es, e1) := by
  rw [v_int h, hd, he]
theorem x_ins {es : List PyData} (h : env[i]? = some (some (.list ds, false))) (hd : ds = es) (he : env = e1) : iNm i env = some (es, e1) := by
  rw [v_ins h, hd, he]
theorem x_ino {es : List PyData} (h : env[i]? = some (some (.list ds, true))) (hd : ds = es) (he : env.set i (some (.list ds, false)) = e1) : iNm i env = some (es, e1) := by
  subst hd
  rw [v_ino h, he]
theorem x_tup (h1 : as env = some (ds, e1)) (hl : ds.length ≤ 1000) (hd : PyData.tuple ds = d) (hf : false = fr) : eTup as env = some (d, fr, e1) := by
  rw [v_tup h1 hl, hd, hf]
theorem x_lst (h1 : as env = some (ds, e1)) (hl : ds.length ≤ 1000) (hd : PyData.list ds = d) (hf : true = fr) : eLst as env = some (d, fr, e1) := by
  rw [v_lst h1 hl, hd, hf]
theorem y_add {i j : Int} (h : PyData.int (i + j) = d) (hf : false = fr) : gAdd (.int i) (.int j) = some (d, fr) := by rw [g_add, h, hf]
theorem y_sub {i j : Int} (h : PyData.int (i - j) = d) (hf : false = fr) : Fw.gSub (.int i) (.int j) = some (d, fr) := by rw [g_sub, h, hf]
theorem y_mulr {i j : Int} (q : -(2 ^ 64) < j ∧ j < 2 ^ 64) (h : PyData.int (i * j) = d) (hf : false = fr) : gMul (.int i) (.int j) = some (d, fr) := by rw [g_mulr q, h, hf]
theorem y_mull {i j : Int} (q : -(2 ^ 64) < i ∧ i < 2 ^ 64) (h : PyData.int (i * j) = d) (hf : false = fr) : gMul (.int i) (.int j) = some (d, fr) := by rw [g_mull q, h, hf]
theorem y_mod {i j : Int} (q : 0 < j) (h : PyData.int (i % j) = d) (hf : false = fr) : gMod (.int i) (.int j) = some (d, fr) := by rw [g_mod q, h, hf]
theorem y_div {i j : Int} (q : 0 < j ∧ j < 1073741824) (h : PyData.int (i / j) = d) (hf : false = fr) : gDiv (.int i) (.int j) = some (d, fr) := by rw [g_div q, h, hf]
theorem y_lt {i j : Int} (h : PyData.bool (decide (i < j)) = d) (hf : false = fr) : gLt (.int i) (.int j) = some (d, fr) := by rw [g_lt, h, hf]
theorem y_le {i j : Int} (h : PyData.bool (decide (i ≤ j)) = d) (hf : false = fr) : gLe (.int i) (.int j) = some (d, fr) := by rw [g_le, h, hf]
theorem y_gt {i j : Int} (h : PyData.bool (decide (j < i)) = d) (hf : false = fr) : gGt (.int i) (.int j) = some (d, fr) := by rw [g_gt, h, hf]
theorem y_ge {i j : Int} (h : PyData.bool (decide (j ≤ i)) = d) (hf : false = fr) : gGe (.int i) (.int j) = some (d, fr) := by rw [g_ge, h, hf]
theorem y_eq {i j : Int} (h : PyData.bool (decide (i = j)) = d) (hf : false = fr) : gEq (.int i) (.int j) = some (d, fr) := by rw [g_eq, h, hf]
theorem y_ne {i j : Int} (h : PyData.bool (!decide (i = j)) = d) (hf : false = fr) : gNe (.int i) (.int j) = some (d, fr) := by rw [g_ne, h, hf]
/-! statements -/
variable {s t : SF} {out : Out}
theorem w_seq (h : s env = .nx e1) (h2 : t e1 = out) : seqS s t env = out := by
  unfold seqS
  rw [h]
  exact h2
theorem w_seqr (h : s env = .rt d fr) : seqS s t env = .rt d fr := by
  unfold seqS
  rw [h]
theorem w_set (h : f env = some (d, fr, e1)) : sSet i f env = .nx (e1.set i (some (d, fr))) := by
  unfold sSet
  rw [h]
theorem w_ret (h : f env = some (d, fr, e1)) : sRet f env = .rt d fr := by
  unfold sRet
  rw [h]
theorem w_drop (h : f env = some (d, fr, e1)) : sDrop f env = .nx e1 := by
  unfold sDrop
  rw [h]
theorem w_if (h : c env = some (b, e1)) (h1 : b = true → s e1 = out) (h2 : b = false → t e1 = out) : sIf c s t env = out := by
  unfold sIf
  rw [h]
  cases b with
  | true => exact h1 rfl
  | false => exact h2 rfl
theorem w_ift (h : c env = some (b, e1)) (hb : b = true) (h1 : s e1 = out) : sIf c s t env = out := w_if h (fun _ => h1) fun z => by rw [hb] at z; cases z
theorem w_iff (h : c env = some (b, e1)) (hb : b = false) (h1 : t e1 = out) : sIf c s t env = out := w_if h (fun z => by rw [hb] at z; cases z) fun _ => h1
theorem w_asg {g : GF} (h : f env = some (d, fr, e1)) (h2 : g d e1 = some e2) : sAsg f g env = .nx e2 := by
  unfold sAsg
  rw [h]
  simp only
  rw [h2]
theorem w_app {ds' : List PyData} (h0 : env[i]? = some (some (.list ds, true))) (h : f env = some (d, fr, e1)) (h1 : e1[i]? = some (some (.list ds', true))) (hl : ds.length < 1000) (hl' : ds'.length < 1000) : sApp i f env = .nx (e1.set i (some (.list (ds' ++ [d]), true))) := by
  unfold sApp
  rw [h0]
  simp only
  rw [if_pos hl, h]
  simp only
  rw [h1]
  simp only
  rw [if_pos hl']
theorem w_aug {op : Int → Int → Int} {x y : Int} (h0 : env[i]? = some (some (.int x, false))) (h : f env = some (.int y, fr, e1)) : sAug i op f env = .nx (e1.set i (some (.int (op x y), false))) := by
  unfold sAug
  rw [h0]
  simp only
  rw [h]
theorem w_setIx {k : Int} {j : Nat} (h : f env = some (d, fr, e1)) (h2 : fa e1 = some (.int k, e2)) (h3 : e2[i]? = some (some (.list ds, true))) (h4 : ixN ds.length k = some j) : sSetIx i f fa env = .nx (e2.set i (some (.list (ds.set j d), true))) := by
  unfold sSetIx
  rw [h]
  simp only
  rw [h2]
  simp only
  rw [h3]
  simp only
  rw [h4]
theorem w_for {fi : AF} {g : GF} (h : fi env = some (ds, e1)) (h2 : loopS g s ds e1 = out) : sFor fi g s env = out := by
  unfold sFor
  rw [h]
  exact h2
theorem w_while {c : TF} (P : En → Prop) (μ : En → Nat) (h : ∀ env, P env → (c env = some (false, env)) ∨ ∃ e2, c env = some (true, env) ∧ s env = .nx e2 ∧ P e2 ∧ μ e2 < μ env) : ∀ (n : Nat) (env : En), P env → μ env < n → ∃ e, whileS c s n env = .nx e ∧ P e ∧ c e = some (false, e)
  | 0, _, _, hm => by omega
  | n + 1, env, hp, hm => by
    unfold whileS
    rcases h env hp with h1 | ⟨e2, h1, h2, h3, h4⟩
    · refine ⟨env, ?_, hp, h1⟩
      rw [h1]
    · obtain ⟨e, q1, q2, q3⟩ := w_while P μ h n e2 h3 (by omega)
      refine ⟨e, ?_, q2, q3⟩
      rw [h1]
      simp only
      rw [h2]
      exact q1
theorem v_ir1 {m : Int} (h : as env = some ([.int m], e1)) (h0 : -(2 ^ 62) ≤ m ∧ m < 2 ^ 62) : iR1 as env = some (intsD 0 m.toNat, e1) := by
  unfold iR1
  rw [h]
  simp only
  rw [if_pos h0]
theorem v_ir2 {l m : Int} (h : as env = some ([.int l, .int m], e1)) (h0 : -(2 ^ 62) ≤ l ∧ l < 2 ^ 62 ∧ -(2 ^ 62) ≤ m ∧ m < 2 ^ 62) : iR2 as env = some (intsD l (m - l).toNat, e1) := by
  unfold iR2
  rw [h]
  simp only
  rw [if_pos h0]
theorem v_il (h : f env = some (.list ds, fr, e1)) : iL f env = some (ds, e1) := by
  unfold iL
  rw [h]
theorem v_ilw (h : fa env = some (.list ds, e1)) : iLw fa env = some (ds, e1) := by
  unfold iLw
  rw [h]
theorem v_it (h : f env = some (.tuple ds, fr, e1)) : iT f env = some (ds, e1) := by
  unfold iT
  rw [h]
theorem v_lc {fi : AF} {g : GF} {vs : List Nat} {xs : List PyData} (h : fi env = some (xs, e1)) (hl : xs.length ≤ 1000) (h2 : lcLoop g c f vs xs (wipeE e1 vs) = some (ds, e2)) : eLc fi g c f vs env = some (.list ds, true, e2) := by
  unfold eLc
  rw [h]
  simp only
  rw [if_pos hl, h2]
theorem v_lcR {as : AF} {g : GF} {vs : List Nat} {m : Nat} (h : as env = some ([.int (m : Int)], e1)) (hm : m ≤ 1000) (h2 : lcLoop g c f vs ((List.range m).map fun (i : Nat) => PyData.int (0 + (i : Int))) (wipeE e1 vs) = some (ds, e2)) : eLc (iR1 as) g c f vs env = some (.list ds, true, e2) := by
  refine v_lc (v_ir1 h (by omega)) ?_ ?_
  · rw [intsD_len, Int.toNat_natCast]
    exact hm
  · rw [Int.toNat_natCast]
    exact h2
/-- a loop whose turns take the items by an invariant over (items left, state) -/
theorem loop_nx {g : GF} {fb : SF} (P : List PyData → En → Prop) (h : ∀ x xs env, P (x :: xs) env → ∃ e1 e2, g x env = some e1 ∧ (fb e1 = .nx e2 ∨ fb e1 = .ct e2) ∧ P xs e2) : ∀ (xs : List PyData) (env : En), P xs env → ∃ e, loopS g fb xs env = .nx e ∧ P [] e
  | [], env, p => ⟨env, rfl, p⟩
  | x :: xs, env, p => by
    obtain ⟨e1, e2, h1, h2, h3⟩ := h x xs env p
    obtain ⟨e, h4, h5⟩ := loop_nx P h xs e2 h3
    refine ⟨e, ?_, h5⟩
    unfold loopS
    rw [h1]
    simp only
    rcases h2 with h2 | h2 <;> rw [h2] <;> exact h4
/-- .. told by the number of turns -/
theorem loop_ix {g : GF} {fb : SF} (xs : List PyData) (P : Nat → En → Prop) (h : ∀ (k : Nat) (hk : k < xs.length) env, P k env → ∃ e1 e2, g xs[k] env = some e1 ∧ (fb e1 = .nx e2 ∨ fb e1 = .ct e2) ∧ P (k + 1) e2) {env : En} (h0 : P 0 env) : ∃ e, loopS g fb xs env = .nx e ∧ P xs.length e := by
  have := loop_nx (g := g) (fb := fb) (fun l e => ∃ k, k ≤ xs.length ∧ l = xs.drop k ∧ P k e) (fun x l e hp => by
    obtain ⟨k, hk, hl, hp⟩ := hp
    have hk' : k < xs.length := by
      rcases Nat.lt_or_ge k xs.length with q | q
      · exact q
      · rw [List.drop_eq_nil_of_le q] at hl
        cases hl
    rw [List.drop_eq_getElem_cons hk'] at hl
    obtain ⟨hx, hl⟩ := List.cons.inj hl
    obtain ⟨e1, e2, h1, h2, h3⟩ := h k hk' e hp
    exact ⟨e1, e2, by rw [hx]; exact h1, h2, k + 1, hk', hl, h3⟩) xs env ⟨0, Nat.zero_le _, rfl, h0⟩
  obtain ⟨e, h1, k, hk, hl, hp⟩ := this
  have hk2 : xs.length ≤ k := List.drop_eq_nil_iff.mp hl.symm
  have : k = xs.length := by omega
  subst this
  exact ⟨e, h1, hp⟩
/-- a comprehension whose turns leave the state as it is -/
theorem lc_map {g : GF} {vs : List Nat} {e0 : En} {α : Type} (enc : α → PyData) (val : α → PyData) (keep : α → Bool) : ∀ (l : List α)
    (h : ∀ a ∈ l, ∃ e1, g (enc a) e0 = some e1 ∧ c e1 = some (keep a, e1) ∧ wipeE e1 vs = e0 ∧ (keep a = true → ∃ fr, f e1 = some (val a, fr, e1))), lcLoop g c f vs (l.map enc) e0 = some ((l.filter keep).map val, e0)
  | [], _ => rfl
  | a :: l, h => by
    obtain ⟨e1, h1, h2, h3, h4⟩ := h a List.mem_cons_self
    have ih := lc_map enc val keep l fun b hb => h b (List.mem_cons_of_mem _ hb)
    rw [List.map_cons]
    unfold lcLoop
    rw [h1]
    simp only
    rw [h2]
    cases hk : keep a with
    | true =>
      obtain ⟨fr, h5⟩ := h4 hk
      simp only
      rw [h5]
      simp only
      rw [h3, ih]
      simp only [List.filter_cons, hk, if_true, List.map_cons]
    | false =>
      simp only
      rw [h3, ih]
      simp only [List.filter_cons, hk, Bool.false_eq_true, if_false]
theorem w_set' (h : f env = some (d, fr, e1)) (ho : Out.nx (e1.set i (some (d, fr))) = out) : sSet i f env = out := (w_set h).trans ho
theorem w_app' {ds' : List PyData} (h0 : env[i]? = some (some (.list ds, true))) (h : f env = some (d, fr, e1)) (h1 : e1[i]? = some (some (.list ds', true))) (hl : ds.length < 1000) (hl' : ds'.length < 1000) (ho : Out.nx (e1.set i (some (.list (ds' ++ [d]), true))) = out) : sApp i f env = out := (w_app h0 h h1 hl hl').trans ho
theorem w_aug' {op : Int → Int → Int} {x y : Int} (h0 : env[i]? = some (some (.int x, false))) (h : f env = some (.int y, fr, e1)) (ho : Out.nx (e1.set i (some (.int (op x y), false))) = out) : sAug i op f env = out := (w_aug h0 h).trans ho
theorem w_setIx' {k : Int} {j : Nat} (h : f env = some (d, fr, e1)) (h2 : fa e1 = some (.int k, e2)) (h3 : e2[i]? = some (some (.list ds, true))) (h4 : ixN ds.length k = some j) (ho : Out.nx (e2.set i (some (.list (ds.set j d), true))) = out) : sSetIx i f fa env = out := (w_setIx h h2 h3 h4).trans ho
theorem w_ret' (h : f env = some (d, fr, e1)) (ho : Out.rt d fr = out) : sRet f env = out := (w_ret h).trans ho
theorem intsD_at {lo : Int} {n k : Nat} (h : k < (intsD lo n).length) : (intsD lo n)[k] = .int (lo + (k : Int)) := by
  have hk : k < n := by rw [intsD_len] at h; exact h
  have := intsD_get (lo := lo) hk
  rw [List.getElem?_eq_getElem h] at this
  exact Option.some.inj this
/-- a loop over whole numbers lo, lo + 1, .. -/
theorem loop_rg {g : GF} {fb : SF} {lo : Int} {n : Nat} (P : Nat → En → Prop) (h0 : P 0 env) (h : ∀ (k : Nat), k < n → ∀ env, P k env → ∃ e1 e2, g (.int (lo + (k : Int))) env = some e1 ∧ (fb e1 = .nx e2 ∨ fb e1 = .ct e2) ∧ P (k + 1) e2) : ∃ e, loopS g fb (intsD lo n) env = .nx e ∧ P n e := by
  have := loop_ix (g := g) (fb := fb) (intsD lo n) P (fun k hk env hp => by
    rw [intsD_at hk]
    exact h k (by rw [intsD_len] at hk; exact hk) env hp) h0
  rw [intsD_len] at this
  exact this
/-- a loop over the data of a list -/
theorem loop_map {g : GF} {fb : SF} {α : Type} (enc : α → PyData) (l : List α) (P : Nat → En → Prop) (h0 : P 0 env) (h : ∀ (k : Nat) (hk : k < l.length) env, P k env → ∃ e1 e2, g (enc l[k]) env = some e1 ∧ (fb e1 = .nx e2 ∨ fb e1 = .ct e2) ∧ P (k + 1) e2) : ∃ e, loopS g fb (l.map enc) env = .nx e ∧ P l.length e := by
  have := loop_ix (g := g) (fb := fb) (l.map enc) P (fun k hk env hp => by
    rw [List.getElem_map]
    exact h k (by rw [List.length_map] at hk; exact hk) env hp) h0
  rw [List.length_map] at this
  exact this
/-- .. by a fold of a state -/
theorem loop_fold {g : GF} {fb : SF} {α β : Type} (enc : α → PyData) (step : β → α → β) (st : β → En → Prop) : ∀ (l : List α) (s : β) (env : En), st s env → (∀ s a env, a ∈ l → st s env → ∃ e1 e2, g (enc a) env = some e1 ∧ (fb e1 = .nx e2 ∨ fb e1 = .ct e2) ∧ st (step s a) e2) →
    ∃ e, loopS g fb (l.map enc) env = .nx e ∧ st (l.foldl step s) e
  | [], s, env, h, _ => ⟨env, rfl, h⟩
  | a :: l, s, env, h, hs => by
    obtain ⟨e1, e2, h1, h2, h3⟩ := hs s a env List.mem_cons_self h
    obtain ⟨e, h4, h5⟩ := loop_fold enc step st l (step s a) e2 h3 fun s b env hb => hs s b env (List.mem_cons_of_mem _ hb)
    refine ⟨e, ?_, h5⟩
    rw [List.map_cons]
    unfold loopS
    rw [h1]
    simp only
    rcases h2 with h2 | h2 <;> rw [h2] <;> exact h4
theorem g_ix2 {x y : PyData} {i : Int} (h : i = 0 ∨ i = 1) : gIx (.list [x, y]) (.int i) = some (if i = 0 then x else y, false) := by
  rcases h with h | h <;> subst h <;> rfl
theorem g_ixm {α : Type} {enc : α → PyData} {l : List α} {i : Int} (h0 : 0 ≤ i) (h : i.toNat < l.length) : gIx (.list (l.map enc)) (.int i) = some (enc l[i.toNat], false) := by
  refine g_ixL ?_
  have e : atI (l.map enc) ((i.toNat : Nat) : Int) = some (enc l[i.toNat]) := atI_nat (by rw [List.getElem?_map, List.getElem?_eq_getElem h]; rfl)
  rw [show ((i.toNat : Nat) : Int) = i by omega] at e
  exact e
end
section
variable {α β : Type}
theorem cutA_from (xs : List α) {k : Int} (h : 0 ≤ k) : cutA xs (some k) none = xs.drop k.toNat := by
  obtain ⟨n, rfl⟩ := Int.eq_ofNat_of_zero_le h
  unfold cutA
  rw [show HT.sIx xs.length 0 (some (n : Int)) = min n xs.length from HT.sIx_nat xs.length 0 n, HT.sIx_none, Int.toNat_natCast]
  rcases Nat.le_total n xs.length with q | q
  · rw [Nat.min_eq_left q]
    exact List.take_of_length_le (by rw [List.length_drop]; exact Nat.le_refl _)
  · rw [Nat.min_eq_right q, List.drop_eq_nil_of_le (Nat.le_refl _), List.drop_eq_nil_of_le q, List.take_nil]
theorem cutA_to (xs : List α) {k : Int} (h : 0 ≤ k) : cutA xs none (some k) = xs.take k.toNat := by
  obtain ⟨n, rfl⟩ := Int.eq_ofNat_of_zero_le h
  unfold cutA
  rw [show HT.sIx xs.length xs.length (some (n : Int)) = min n xs.length from HT.sIx_nat xs.length xs.length n, HT.sIx_none, Int.toNat_natCast, Nat.sub_zero, List.drop_zero]
  rcases Nat.le_total n xs.length with q | q
  · rw [Nat.min_eq_left q]
  · rw [Nat.min_eq_right q, List.take_of_length_le (Nat.le_refl _), List.take_of_length_le q]
theorem cutA_mid (xs : List α) {j k : Int} (h : 0 ≤ j) (h2 : 0 ≤ k) : cutA xs (some j) (some k) = (xs.take k.toNat).drop j.toNat := by
  obtain ⟨n, rfl⟩ := Int.eq_ofNat_of_zero_le h
  obtain ⟨m, rfl⟩ := Int.eq_ofNat_of_zero_le h2
  unfold cutA
  rw [show HT.sIx xs.length 0 (some (n : Int)) = min n xs.length from HT.sIx_nat xs.length 0 n, show HT.sIx xs.length xs.length (some (m : Int)) = min m xs.length from HT.sIx_nat xs.length xs.length m, Int.toNat_natCast, Int.toNat_natCast, List.drop_take]
  have e1 : xs.drop (min n xs.length) = xs.drop n := by
    rcases Nat.le_total n xs.length with q | q
    · rw [Nat.min_eq_left q]
    · rw [Nat.min_eq_right q, List.drop_eq_nil_of_le (Nat.le_refl _), List.drop_eq_nil_of_le q]
  rw [e1]
  refine List.ext_getElem? fun i => ?_
  rw [List.getElem?_take, List.getElem?_take, List.getElem?_drop]
  by_cases h3 : n + i < xs.length
  · by_cases h4 : i < m - n
    · rw [if_pos (by omega), if_pos h4]
    · rw [if_neg (by omega), if_neg h4]
  · have e2 : xs[n + i]? = none := List.getElem?_eq_none (by omega)
    rw [e2]
    split <;> split <;> rfl
theorem map_cut (f : α → β) (xs : List α) (lo hi : Option Int) : cutA (xs.map f) lo hi = (cutA xs lo hi).map f := by
  unfold cutA
  rw [List.length_map, List.map_take, List.map_drop]
end
/-! == of data that can be laid -/
def Lay (n : Nat) (d : PyData) : Prop := d.canLay0 = true ∧ d.depth ≤ n
theorem lay_int {n : Nat} (i : Int) : Lay n (.int i) := ⟨rfl, Nat.zero_le _⟩
theorem lay_all {n : Nat} : ∀ {ds : List PyData}, (∀ d ∈ ds, Lay n d) → PyData.canLayAll0 ds = true ∧ PyData.depthAll ds ≤ n
  | [], _ => ⟨rfl, Nat.zero_le _⟩
  | d :: ds, h => by
    obtain ⟨a, b⟩ := lay_all fun x hx => h x (List.mem_cons_of_mem _ hx)
    obtain ⟨a1, b1⟩ := h d List.mem_cons_self
    refine ⟨?_, ?_⟩
    · simp only [PyData.canLayAll0, a, a1, Bool.and_self]
    · simp only [PyData.depthAll]
      omega
theorem lay_list {n : Nat} {ds : List PyData} (h : ∀ d ∈ ds, Lay n d) : Lay (n + 1) (.list ds) := by
  obtain ⟨a, b⟩ := lay_all h
  refine ⟨by simpa [PyData.canLay0] using a, ?_⟩
  simp only [PyData.depth]
  omega
theorem lay_tup {n : Nat} {ds : List PyData} (h : ∀ d ∈ ds, Lay n d) : Lay (n + 1) (.tuple ds) := by
  obtain ⟨a, b⟩ := lay_all h
  refine ⟨by simpa [PyData.canLay0] using a, ?_⟩
  simp only [PyData.depth]
  omega
theorem lay_shaped {n : Nat} {d : PyData} (h : Lay n d) (hn : n ≤ 64) : SeqAt.shaped d = true := by
  unfold SeqAt.shaped
  rw [h.1, decide_eq_true (Nat.le_trans h.2 hn)]
  rfl
theorem lay_ints (ns : List Int) : Lay 1 (.list (ns.map .int)) := lay_list (n := 0) fun d hd => by
  obtain ⟨i, _, rfl⟩ := List.mem_map.mp hd
  exact lay_int i
theorem lay_intss (ns : List (List Int)) : Lay 2 (.list (ns.map fun l => .list (l.map .int))) := lay_list (n := 1) fun d hd => by
  obtain ⟨l, _, rfl⟩ := List.mem_map.mp hd
  exact lay_ints l
theorem eqD_same {x : PyData} (h : SeqAt.shaped x = true) : gEq x x = some (.bool true, false) := by
  unfold gEq eqD
  split
  · rw [decide_eq_true rfl]
    rfl
  · rw [h, SeqAt.eqv_refl x (SeqAt.canLay_of_shaped h)]
    rfl
theorem neD_same {x : PyData} (h : SeqAt.shaped x = true) : gNe x x = some (.bool false, false) := by
  unfold gNe eqD
  split
  · rw [decide_eq_true rfl]
    rfl
  · rw [h, SeqAt.eqv_refl x (SeqAt.canLay_of_shaped h)]
    rfl
theorem eqD_nil {ds : List PyData} (h : SeqAt.shaped (.list ds) = true) : eqD (.list ds) (.list []) = some ds.isEmpty := by
  unfold eqD
  simp only
  rw [h]
  cases ds with
  | nil => rfl
  | cons a b => rfl
theorem gNe_nil {ds : List PyData} (h : SeqAt.shaped (.list ds) = true) : gNe (.list ds) (.list []) = some (.bool (!ds.isEmpty), false) := by
  unfold gNe
  rw [eqD_nil h]
  rfl
theorem gEq_nil {ds : List PyData} (h : SeqAt.shaped (.list ds) = true) : gEq (.list ds) (.list []) = some (.bool ds.isEmpty, false) := by
  unfold gEq
  rw [eqD_nil h]
  rfl
end Fw
namespace Fw
open PySem PySem.Spec PyProof.Rows L2 Evl
/-! by hand: what a law does to the answers that it was told -/
def nil : Hp := fun _ => none
/-- every object is shared, for a look at some names -/
theorem adhoc {H : Hp} {σ : L2.St} {env : En} (hl : σ.length = env.length) (h : ∀ (i : Nat) (d : PyData) (b : Bool), env[i]? = some (some (d, b)) → b = false ∧ ∃ v, σ[i]? = some (some v) ∧ Dq H v d) : SRel nil nil nil H H σ env := by
  refine ⟨Ex.refl H, fun b o q => (nomatch (show none = some o from q)), fun b o q => (nomatch (show none = some o from q)), fun b o q => (nomatch (show none = some o from q)), fun _ _ _ _ => rfl, fun i d q => ?_, fun i d q => ?_, fun i j d e a _ q => ?_, hl⟩
  · obtain ⟨_, v, h1, h2⟩ := h i d false q
    exact ⟨v, h1, .of h2⟩
  · have := (h i d true q).1
    cases this
  · have := (h i d true q).1
    cases this
theorem wipeE_get {env : En} {i : Nat} {x : PyData × Bool} : ∀ {vs : List Nat}, (wipeE env vs)[i]? = some (some x) → env[i]? = some (some x) ∧ i ∉ vs
  | [], h => ⟨h, by simp⟩
  | v :: vs, h => by
    have h' : ((wipeE env vs).set v none)[i]? = some (some x) := h
    by_cases hi : v = i
    · subst hi
      by_cases hv : v < (wipeE env vs).length
      · rw [List.getElem?_set_self hv] at h'
        cases h'
      · rw [List.getElem?_eq_none (by rw [List.length_set]; omega)] at h'
        cases h'
    · rw [List.getElem?_set_ne hi] at h'
      obtain ⟨h1, h2⟩ := wipeE_get h'
      exact ⟨h1, by simp only [List.mem_cons, not_or]; exact ⟨fun e => hi e.symm, h2⟩⟩
theorem wipeE_len (env : En) : ∀ vs : List Nat, (wipeE env vs).length = env.length
  | [] => rfl
  | v :: vs => by
    show ((wipeE env vs).set v none).length = _
    rw [List.length_set, wipeE_len env vs]
/-- other slots, a grown heap: what is known of the rest stays -/
theorem SRel.other_slots {B H0 R0 R H H' : Hp} {σ σ' : L2.St} {env : En} {js : List Nat} (S : SRel B H0 R0 R H σ env) (e : Ex H H') (h : ∀ j, j ∉ js → σ'[j]? = σ[j]?) (hl : σ'.length = σ.length) : SRel B H0 R0 R H' σ' (wipeE env js) := by
  refine ⟨S.rh.trans e, S.r0, S.h0.trans e, S.bb, S.new, fun i d q => ?_, fun i d q => ?_, fun i j d x a hij q1 q2 q3 q4 => ?_, by rw [hl, wipeE_len]; exact S.len⟩
  · obtain ⟨h1, h2⟩ := wipeE_get q
    obtain ⟨v, h3, h4⟩ := S.slot i d h1
    exact ⟨v, (h i h2).trans h3, h4⟩
  · obtain ⟨h1, h2⟩ := wipeE_get q
    obtain ⟨a, vs, ds, h3, h4, h5, h6⟩ := S.own i d h1
    exact ⟨a, vs, ds, h3, (h i h2).trans h4, e _ _ h5, h6⟩
  · obtain ⟨h1, h2⟩ := wipeE_get q1
    obtain ⟨h3, h4⟩ := wipeE_get q2
    rw [h i h2] at q3
    rw [h j h4] at q4
    exact S.dis i j d x a hij h1 h3 q3 q4
/-- the tuples of a heap -/
def tupsOf (R : Hp) : Hp := fun b => match R b with
  | some (.tup xs) => some (.tup xs)
  | _ => none
theorem tups_ex (R : Hp) : Ex (tupsOf R) R := fun b o q => by
  unfold tupsOf at q
  split at q
  · rename_i xs h
    cases q
    exact h
  · cases q
theorem tups_no {R : Hp} {b : Addr} {xs : List V} : tupsOf R b ≠ some (.lst xs) := fun q => by
  unfold tupsOf at q
  split at q <;> cases q
/-! data without lists lean on tuples alone -/
mutual
def noL : PyData → Bool
  | .none => true
  | .bool _ => true
  | .int _ => true
  | .str _ => true
  | .list _ => false
  | .dict _ => false
  | .tuple ds => noLs ds
def noLs : List PyData → Bool
  | [] => true
  | d :: ds => noL d && noLs ds
end
mutual
theorem dq_tups {R : Hp} : ∀ {d : PyData} {v : V}, noL d = true → Dq R v d → Dq (tupsOf R) v d
  | .none, _, _, h => by cases h; exact .non
  | .bool _, _, _, h => by cases h; exact .bl _
  | .int _, _, _, h => by cases h; exact .int _
  | .str _, _, _, h => by cases h; exact .str _
  | .list _, _, n, _ => by simp [noL] at n
  | .dict _, _, n, _ => by simp [noL] at n
  | .tuple ds, _, n, h => by
    cases h with
    | @tup a xs _ e q =>
      refine Dq.tup (xs := xs) ?_ (dqa_tups (by simpa [noL] using n) q)
      unfold Rq tupsOf
      rw [e]
theorem dqa_tups {R : Hp} : ∀ {ds : List PyData} {vs : List V}, noLs ds = true → DqAll R vs ds → DqAll (tupsOf R) vs ds
  | [], _, _, h => by cases h; exact .nil
  | d :: ds, _, n, h => by
    cases h with
    | cons a b =>
      have n' := Bool.and_eq_true_iff.mp (by simpa [noLs] using n)
      exact .cons (dq_tups n'.1 a) (dqa_tups n'.2 b)
end
/-- a list that is told: where a cell stands that stood nowhere before, with whole numbers in it -/
def NewInts (H1 H : Hp) (v : V) : Prop := ∃ (b : Addr) (ns : List Int), v = .ref b ∧ H b = some (.lst (ns.map V.int)) ∧ ns.length < 900 ∧ H1 b = none
theorem new_of {R R' H1 H : Hp} (hr : Ex R' H) (hn : ∀ b o, R' b = some o → tupsOf R b = none → H1 b = none) {v : V} {ns : List Int} (hl : ns.length < 900) (hx : Ex (tupsOf R) R') (h : Dq R' v (.list (ns.map .int))) : NewInts H1 H v := by
  cases h with
  | @lst a xs ds e q =>
    have ev := dpa_ints q
    subst ev
    refine ⟨a, ns, rfl, hr _ _ e, hl, hn a _ e ?_⟩
    cases hq : tupsOf R a with
    | none => rfl
    | some o =>
      have h2 := hx a o hq
      have e' : R' a = some (.lst (ns.map V.int)) := e
      rw [e'] at h2
      cases h2
      exact absurd hq tups_no
section
variable {X : Cx}
/-- for x in xs: if ..: return False; x.append(z), over lists of whole numbers that stood nowhere before -/
theorem priv_for {K : PySem.W.Frag} {c : TF} {tr : TS} {l i : Nat} {z : Int} {D : Ends} {σ : L2.St} {H1 H : Hp} {a : Addr} {vs : List V} (hli : l ≠ i) (hs : i < σ.length) (hl : σ[l]? = some (some (.ref a))) (e : Ex H1 H) (ha : H a = some (.lst vs))
    (hvl : vs.length ≤ 90) (hna : ∀ ns : List Int, vs ≠ ns.map V.int) (hin : ∀ v ∈ vs, NewInts H1 H v)
    (hc : ∀ (ns : List Int) (env : En), ns.length < 1000 → env = (List.replicate σ.length none).set i (some (.list (ns.map .int), false)) → ∃ e', c env = some (false, e'))
    (hD : ∀ σ2 H2, (∀ j, j ∉ [i] → σ2[j]? = σ[j]?) → σ2.length = σ.length → Ex H1 H2 → H2 a = some (.lst vs) → D.nx σ2 H2) :
    tFor (iList K (tVar l)) (gName i) (tSeq (tIfS (tT c) tr tNext) (tDrop (tBM K "list" rAppend (tVar i) (tCons (tC (.int z)) tNil)))) D σ H := by
  refine ⟨_, hl, a, rfl, ⟨vs, .inl (.inl ha)⟩, ?_⟩
  refine for_list (xs := vs) (fun k σ2 H2 => (∀ j, j ∉ [i] → σ2[j]? = σ[j]?) ∧ σ2.length = σ.length ∧ Ex H1 H2 ∧ H2 a = some (.lst vs) ∧ ∀ j v, vs[j]? = some v → ∃ (b : Addr) (ns : List Int), v = V.ref b ∧ H2 b = some (.lst (ns.map V.int)) ∧ ns.length < 900 + k ∧ H1 b = none)
    ⟨fun _ _ => rfl, rfl, e, ha, fun j v hj => (show NewInts H1 H v from hin v (List.mem_of_getElem? hj))⟩ (fun k σ2 H2 _ hp => .inl (.inl hp.2.2.2.1)) (fun k x σ2 H2 hx hp => ?_) fun σ2 H2 hp => hD σ2 H2 hp.1 hp.2.1 hp.2.2.1 hp.2.2.2.1
  obtain ⟨h1, h2, h3, h4, h5⟩ := hp
  obtain ⟨b, ns, rfl, hb, hn, hb1⟩ := h5 k x hx
  have hk : k < vs.length := (List.getElem?_eq_some_iff.mp hx).1
  have hi2 : i < σ2.length := by rw [h2]; exact hs
  have hget : (σ2.set i (some (V.ref b)))[i]? = some (some (V.ref b)) := List.getElem?_set_self hi2
  obtain ⟨e', he'⟩ := hc ns _ (by omega) rfl
  refine ⟨nil, nil, nil, H2, _, false, e', adhoc ?_ (fun j d bb q => ?_), he', fun R' H3 S3 _ e3 => iteF ?_⟩
  · rw [List.length_set, List.length_set, List.length_replicate, h2]
  · by_cases hj : j = i
    · subst hj
      rw [List.getElem?_set_self (by rw [List.length_replicate]; exact hs)] at q
      cases q
      exact ⟨rfl, _, hget, .lst hb (dpa_of_ints ns)⟩
    · rw [List.getElem?_set_ne (Ne.symm hj), List.getElem?_replicate] at q
      split at q <;> cases q
  · have hb3 := e3 b _ hb
    refine ⟨_, hget, .inl ⟨rfl, _, .inl (.inl hb3)⟩, b, ns.map V.int, .int z, rfl, rfl, hb3, ?_, fun j hj => ?_, ?_, Ex.mut (h3.trans e3) hb1, ?_, fun j v hj => ?_⟩
    · rw [List.length_map]
      exact Nat.lt_of_lt_of_le (show ns.length < 1000 by omega) (by decide)
    · have : j ≠ i := fun z => hj (by rw [z]; exact List.mem_singleton.mpr rfl)
      rw [List.getElem?_set_ne (Ne.symm this)]
      exact h1 j hj
    · rw [List.length_set]
      exact h2
    · have hab : a ≠ b := fun z => by
        subst z
        rw [h4] at hb
        exact hna ns (HO.lst.inj (Option.some.inj hb))
      rw [upd_ne hab]
      exact e3 a _ h4
    · obtain ⟨b', ns', rfl, q1, q2, q3⟩ := h5 j v hj
      by_cases hbb : b' = b
      · subst hbb
        refine ⟨b', ns ++ [z], rfl, ?_, ?_, hb1⟩
        · rw [upd_same, List.map_append]
          rfl
        · rw [List.length_append]
          exact Nat.succ_lt_succ hn
      · refine ⟨b', ns', rfl, ?_, by omega, q3⟩
        rw [upd_ne hbb]
        exact e3 b' _ q1
end
section
variable {X : Cx}
theorem tS_step {f : SF} {u : TS} {D : Ends} {B H0 R0 R H : Hp} {σ : L2.St} {env e1 : En} (S : SRel B H0 R0 R H σ env) (h : f env = .nx e1) (k : ∀ σ' R' H', SRel B H0 R0 R' H' σ' e1 → Ex R R' → u D σ' H') : tSeq (tS f) u D σ H := by
  refine ⟨B, H0, R0, R, env, S, ?_⟩
  rw [h]
  exact k
/-- a call, as the callee's promise tells it -/
theorem qe_callR {k : Nat} {ms : List Bool} {g : List PyData → Option (PyData × Bool)} {x : Str} {p pos : Pos} {e : Expr} {es : List Expr} {t : TA} (h : Has X.prog X.w X.K X.mg X.base k x g ms) (hr : Room k X.A) (hg : Gl X x) (ha : PA X (e :: es) t)
    (hdb : (x == ("__debug__" : Str)) = false := by decide) (he : starEach (e :: es) X.env = (false, eval e X.env) :: starEach es X.env := by rfl) (hpl : (backTo pos (starEach es X.env)).any (·.1) = false := by rfl) :
    PE X (.Call (.Name x p) (e :: es) [] pos) (tCall (spD g ms) [] E0 t) := by
  obtain ⟨f, fd, ps, hm, hk, hb, F⟩ := h
  exact pe_call F hr hg hm hk hb .nil pass0 ha hdb he hpl
theorem SRel.int_at {B H0 R0 R H : Hp} {σ : L2.St} {env : En} {i : Nat} {n : Int} (S : SRel B H0 R0 R H σ env) (h : env[i]? = some (some (.int n, false))) : σ[i]? = some (some (.int n)) := by
  obtain ⟨v, h1, h2⟩ := S.slot i _ h
  have h3 := h2.dq rfl
  cases h3
  exact h1
theorem SRel.list_at {B H0 R0 R H : Hp} {σ : L2.St} {env : En} {i : Nat} {ds : List PyData} {o : Bool} (S : SRel B H0 R0 R H σ env) (h : env[i]? = some (some (.list ds, o))) : ∃ a vs, σ[i]? = some (some (.ref a)) ∧ H a = some (.lst vs) ∧ DqAll R vs ds := by
  cases o with
  | true =>
    obtain ⟨a, vs, es, e, h1, h2, h3, h4, h5⟩ := S.own i _ h
    cases e
    exact ⟨a, vs, h1, h2, h5⟩
  | false =>
    obtain ⟨v, h1, h2⟩ := S.slot i _ h
    cases h2.dq rfl with
    | @lst a vs _ q1 q2 => exact ⟨a, vs, h1, S.rh _ _ q1, q2⟩
theorem NewInts.mono {H1 H H' : Hp} {v : V} (e : Ex H H') (h : NewInts H1 H v) : NewInts H1 H' v := by
  obtain ⟨b, ns, h1, h2, h3, h4⟩ := h
  exact ⟨b, ns, h1, e _ _ h2, h3, h4⟩
end
end Fw
namespace Fw
open PySem PySem.Spec PyProof.Rows L2

/-! enumerate over a tuple -/
set_option maxHeartbeats 1000000 in
theorem newEn {v : Value} {o : Obj} {C : Heap → Prop} (B : Begins v o C) : Meets (Builtin.«enumerate.__new__» ⟨[.type "enumerate", v], []⟩) (fun _ R s => C s.heap ∧
    R (.ok (.ret (.ref (s.heap.push o).objs.size))) { s with heap := (s.heap.push o).push { cls := .type "enumerate", data := .fields #[.none, .bool false, .ref s.heap.objs.size, rawInt 0, .none, .none] } }) :=
  .of_wp fun prog w A R s hs => by
    obtain ⟨hp, gl, dd, tks, oss⟩ := s; obtain ⟨hv, hr⟩ := hs
    have hsub := sub_enumerate
    have go1 : ∀ {A1 : Around} {E1 Q1 : Value → Shared → Prop}, Q1 (.ref hp.objs.size) ⟨hp.push o, gl, dd, tks, oss⟩ → wpAny (model prog w) A1 (pyIter v) Q1 E1 ⟨hp, gl, dd, tks, oss⟩ := fun q => B.iter prog w _ _ ⟨hp, gl, dd, tks, oss⟩ _ hv q
    wp_walk using go1
    refine wpAny_stack_any fun z => wpAny_pure ?_
    split
    · rename_i c1 _ _ _ _ _
      cases (c1 == Value.type "enumerate")
      all_goals
        wp_walk using go1
        exact ⟨_, rfl, hr⟩
    · wp_walk using go1
      exact ⟨_, rfl, hr⟩
section
variable {prog : Program} {w : World} {A : Around} {E : Value → Shared → Prop} {s : Shared}
theorem mkEn {v : Value} {o : Obj} {C : Heap → Prop} {Q : Value → Shared → Prop} (B : Begins v o C) (hC : C s.heap)
    (k : ∀ h', IsEnum h' (s.heap.objs.size + 1) s.heap.objs.size 0 .none → h'.get? s.heap.objs.size = some o → (∀ b ob, s.heap.get? b = some ob → h'.get? b = some ob) → Q (.ref (s.heap.objs.size + 1)) { s with heap := h' }) :
    wpAny (model prog w) A (call (.type "enumerate") [v]) Q E s := by
  refine callType_new F.called_enumerate (by decide) (F.typeCall_enumerate_1 _) (F.newCall_enumerate_1 _) (fun ob => F.args_object_init_2 ob _) F.entry_enumerate_new (newEn B) ⟨hC, ?_⟩
  have sz : (s.heap.push o).objs.size = s.heap.objs.size + 1 := Heap.size_push ..
  show _ ∧ _
  rw [sz]
  have e1 := Heap.get?_push_size (s.heap.push o) (o := { cls := .type "enumerate", data := .fields #[.none, .bool false, .ref s.heap.objs.size, rawInt 0, .none, .none] }) rfl
  rw [sz] at e1
  exact ⟨⟨_, e1, rfl⟩, k _ e1 (Heap.get?_push_of_some _ (Heap.get?_push_size _ B.free)) fun b ob q => Heap.get?_push_of_some _ (Heap.get?_push_of_some _ q)⟩
end
/-- the tuple at a, each item in a new pair -/
def Ien (K : PySem.W.Frag) (a : Addr) : It :=
  ⟨fun i H => ∃ (xs : List V) (x : V), SqT K H a xs ∧ xs[i]? = some x,
   fun i H v H' => ∃ T x, v = .ref T ∧ H T = none ∧ H' = upd H T (.tup [.int (i : Nat), x]) ∧ ∀ xs, SqT K H a xs → xs[i]? = some x,
   fun i H => ∃ xs : List V, SqT K H a xs ∧ xs.length ≤ i⟩
theorem turn_en {P : Program} {w : World} {K : PySem.W.Frag} {tgs : List Expr} {n0 : Nat} {tp : Pos} (a e it : Addr) :
    Turn P w K (.Tuple tgs n0 tp) (Ien K a) [e, it] e (fun i h => (∃ old, IsEnum h e it ((i : Nat) : Int) old) ∧ h.IsTupleIter it a i ∧ e ≠ it) where
  mem := List.mem_cons_self
  obj := fun i h st b hb => by
    obtain ⟨⟨old, he⟩, ⟨o, ho, hc, hd⟩, _⟩ := st
    rcases List.mem_cons.mp hb with z | z
    · subst z
      exact ⟨_, he, fun v q => nomatch q⟩
    · rw [List.mem_singleton.mp z]
      exact ⟨o, ho, fun v q => by rw [hd] at q; cases q⟩
  keep := fun i h h' st k => ⟨⟨st.1.choose, k e (List.mem_cons_self) _ st.1.choose_spec⟩, st.2.1.at fun o q => k it (List.mem_cons_of_mem _ List.mem_cons_self) o q, st.2.2⟩
  item := by
    intro X hP hw hK hc i pins s σ H E I hf st hg
    subst hP hw hK
    obtain ⟨⟨old, he⟩, hit, hne⟩ := st
    obtain ⟨xs, x, hq, hx⟩ := hg
    obtain ⟨its, rv, p0, hz⟩ := I.tuple hq
    have p : s.heap.IsTuple a its.toArray := p0
    have hh : X.A.in1.handled = none := I.ok.hd hc
    have ait : a ≠ it := fun z => by
      subst z
      obtain ⟨o1, h1, c1, _⟩ := hit
      obtain ⟨o2, h2, c2, _⟩ := p
      rw [h1] at h2
      cases h2
      rw [c1] at c2
      injection c2 with c3
      exact absurd c3 (by decide)
    have aen : e ≠ a := fun z => by
      subst z
      obtain ⟨o2, h2, c2, _⟩ := p
      have h1 : s.heap.get? e = _ := he
      rw [h1] at h2
      cases h2
      injection c2 with c3
      exact absurd c3 (by decide)
    have hlt : i < its.toArray.size := by
      have := (List.getElem?_eq_some_iff.mp hx).1
      have := rv.length
      simp
      omega
    have sz1 : e < s.heap.objs.size := Heap.lt_size he
    have sz2 : it < s.heap.objs.size := by
      obtain ⟨_, q, _⟩ := hit
      exact Heap.lt_size q
    refine wpAny_pyNext_enum_itemD (Draws.tuple hh it a ait its.toArray) he ⟨hit, p⟩ hlt hne (by simp [hne, aen]) fun u h' tk hP ho hst hT _ hk => ?_
    obtain ⟨u', hu', ru⟩ := rv.get hx
    have eu : u = u' := by
      have hP' : its.toArray[i]? = some u := hP
      simp only [List.getElem?_toArray] at hP'
      rw [hu'] at hP'
      exact (Option.some.inj hP').symm
    subst eu
    refine ⟨_, rfl, wpAny_letOwnedTupleGo_enum (s := { s with heap := h', toks := tk + 1 }) ho fun h2 he2 sb => ?_⟩
    have hT2 : h2.get? s.heap.objs.size = some { cls := .type "tuple", data := .seq #[.int i tk, u] } := (sb.2 _ (Nat.ne_of_gt sz1)).trans hT
    have nw : ObjOk X.prog X.w (upd H s.heap.objs.size (.tup [.int (i : Nat), x])) h2 s.heap.objs.size (.tup [.int (i : Nat), x]) := ⟨by show 2 ≤ sizeLine; decide, [.int i tk, u], .cons ⟨_, rfl⟩ (.cons ru .nil), ⟨_, hT2, rfl, _, rfl⟩⟩
    have I0 : Inv X pins σ H { s with toks := tk } := I.kept (t' := tk) fun b o q => q
    have I1 : Inv X pins σ (upd H s.heap.objs.size (.tup [.int (i : Nat), x])) { s with heap := h2, toks := tk + 1 } :=
      I0.turnedNew (ch := [e, it]) (fun b ob hb q => (sb.2 b (fun z => hb (by rw [z]; exact List.mem_cons_self))).trans (hk b ob (fun z => hb (by rw [z]; exact List.mem_cons_self)) (fun z => hb (by rw [z]; exact List.mem_cons_of_mem _ List.mem_cons_self)) q)) hf (Nat.le_refl _) nw
    refine ⟨.ref s.heap.objs.size, _, I1, rfl, ⟨_, x, rfl, I.hok.fresh (Nat.le_refl _), rfl, fun ys hy => (by rw [I.tuple_inj hy hq]; exact hx)⟩, ⟨⟨u, ?_⟩, hst.1.at fun o q => (sb.2 it (Ne.symm hne)).trans q, hne⟩, fun b hb => ?_⟩
    · rw [show ((i + 1 : Nat) : Int) = (i : Int) + 1 by omega]
      exact he2
    · have : b < s.heap.objs.size := by
        rcases List.mem_cons.mp hb with z | z
        · rw [z]
          exact sz1
        · rw [List.mem_singleton.mp z]
          exact sz2
      rw [upd_ne (Nat.ne_of_lt this)]
      exact (hf b hb).1
  done := by
    intro X hP hw hK hc i pins s σ H E I hf st hg
    subst hP hw hK
    obtain ⟨⟨old, he⟩, hit, hne⟩ := st
    obtain ⟨xs, hq, hx⟩ := hg
    obtain ⟨its, rv, p0, hz⟩ := I.tuple hq
    have p : s.heap.IsTuple a its.toArray := p0
    have hh : X.A.in1.handled = none := I.ok.hd hc
    have ait : a ≠ it := fun z => by
      subst z
      obtain ⟨o1, h1, c1, _⟩ := hit
      obtain ⟨o2, h2, c2, _⟩ := p
      rw [h1] at h2
      cases h2
      rw [c1] at c2
      injection c2 with c3
      exact absurd c3 (by decide)
    obtain ⟨f0, f1, f2, f3, f4, f5⟩ := hf it (by simp)
    have hl := rv.length
    have D : Draws X.prog X.w X.A.in1 it [it, a] i (fun _ _ => True) (fun j h => j = i ∧ h.IsTupleIter it a i ∧ h.IsTuple a its.toArray) :=
      ⟨fun j h st => (let ⟨o, ho, _⟩ := st.2.1; ⟨o, ho⟩), fun j h h' st k => ⟨st.1, st.2.1.at fun o q => k it (by simp) o q, st.2.2.at fun o q => k a (by simp) o q⟩,
       fun j s Q E hj st _ => absurd st.1 (Nat.ne_of_lt hj), fun s Q E st hE => wpAny_nextOf_tuple_end hh st.2.1 st.2.2 (by simp; omega) hE⟩
    exact wpAny_pyNext_enum_endD D he ⟨rfl, hit, p⟩ fun h' eb => ⟨rfl, I.turned (t' := s.toks) (fun b o hb q => eb b o hb q) f0 f1 f3 f4 f5⟩
  self := fun A i s Q E st h => wpAny_pyIter_enum st.1.choose_spec h
def iEn (K : PySem.W.Frag) (ta : TA) : TI := fun σ H R => ta σ H fun vs H1 => ∃ a xs, vs = [.ref a] ∧ SqT K H1 a xs ∧ R (Ien K a) H1
theorem pi_en {X : Cx} {e : Expr} {ta : TA} {p pos tp : Pos} {tgs : List Expr} {n0 : Nat} (hg : Gl X "enumerate") (hm : X.mg "enumerate" = none) (ha : PA X [e] ta) (hs : starEach [e] X.env = [(false, eval e X.env)] := by rfl) :
    PI X (.Tuple tgs n0 tp) (.Call (.Name "enumerate" p) [e] [] pos) (iEn X.K ta) := by
  refine ⟨fun pins s σ H R I h => Call_ (ld_blt I hg hm boot_enumerate (PyProof.Rows.callWith_type1 (thn (ha.run pos pins s σ H _ I h) fun us s1 ⟨vs, H1, I1, r1, q1⟩ => ?_) hs rfl))⟩
  obtain ⟨a, xs, ex, hq, q⟩ := q1
  subst ex
  cases r1 with
  | cons r rr =>
    cases rr
    cases r
    obtain ⟨its, rv, p0, hz⟩ := I1.tuple hq
    refine mkEn (begins_tuple a its.toArray) p0 fun h' he hit hk => wpAny_pyIter_enum he ?_
    have I2 : Inv X pins σ H1 { s1 with heap := h' } := I1.kept (t' := s1.toks) hk
    refine ⟨s1.heap.objs.size + 1, [s1.heap.objs.size + 1, s1.heap.objs.size], _, _, H1, rfl, I2, turn_en a (s1.heap.objs.size + 1) s1.heap.objs.size, ⟨⟨.none, he⟩, ⟨_, hit, rfl, rfl⟩, Nat.succ_ne_self _⟩, fun b hb => ?_, q⟩
    have le : s1.heap.objs.size ≤ b := by
      rcases List.mem_cons.mp hb with z | z
      · rw [z]
        exact Nat.le_succ _
      · rw [List.mem_singleton.mp z]
        exact Nat.le_refl _
    exact I1.fpOk le (I1.hok.fresh le)
theorem walk_en {K : PySem.W.Frag} {a : Addr} {xs : List V} : Walk (Ien K a) xs.length (fun H => SqT K H a xs) (YPair (fun i => some (.int (i : Nat))) (fun i => xs[i]?)) :=
  ⟨fun i _ hi q => ⟨xs, xs[i], q, by simp [hi]⟩, fun _ q => ⟨xs, q, Nat.le_refl _⟩, fun i H v H' _ q y => by
    obtain ⟨T, x, h1, h2, h3, h4⟩ := y
    exact ⟨T, .int (i : Nat), x, h1, h2, h3, rfl, h4 xs q⟩⟩
/-! places of stores that take no name's list away -/
def WSame (f : WF) : Prop := ∀ env r, f env = some r → r.2 = env
theorem same_var {i : Nat} : WSame (wVar i) := fun _ _ h => wVar_same h
theorem same_c {d : PyData} : WSame (wOf (eC d)) := fun env r h => by
  cases h
  rfl
theorem same_bin {g : PyData → PyData → Option (PyData × Bool)} {fa fb : WF} (ha : WSame fa) (hb : WSame fb) : WSame (wOf (eBin g fa fb)) := fun env r h => by
  unfold wOf eBin at h
  cases h1 : fa env with
  | none => rw [h1] at h; cases h
  | some p =>
    obtain ⟨x, e1⟩ := p
    have e2 : e1 = env := ha _ _ h1
    subst e2
    cases h2 : fb e1 with
    | none => rw [h1] at h; simp only [h2] at h; cases h
    | some p2 =>
      obtain ⟨y, e3⟩ := p2
      have e4 : e3 = e1 := hb _ _ h2
      subst e4
      rw [h1] at h
      simp only [h2] at h
      cases h3 : g x y with
      | none => rw [h3] at h; cases h
      | some z =>
        obtain ⟨d, fr⟩ := z
        rw [h3] at h
        cases h
        rfl
/-! xs[i], xs[j] = pair -/
def sSwap (i : Nat) (fe : EF) (f1 f2 : WF) : SF := fun env => match fe env with
  | some (.tuple [x, y], _, e1) => match f1 e1 with
    | some (.int k1, _) => match e1[i]? with
      | some (some (.list ds, true)) => match ixN ds.length k1 with
        | some j1 => match f2 (e1.set i (some (.list (ds.set j1 x), true))) with
          | some (.int k2, _) => match ixN ds.length k2 with
            | some j2 => .nx ((e1.set i (some (.list (ds.set j1 x), true))).set i (some (.list ((ds.set j1 x).set j2 y), true)))
            | none => .bad
          | _ => .bad
        | none => .bad
      | _ => .bad
    | _ => .bad
  | _ => .bad
section
variable {X : Cx} {e : Expr} {pos : Pos} {fe : EF} {f1 f2 : WF}
open Evl in
theorem swap_ok {K : PySem.W.Frag} {i : Nat} {D : Ends} {σ : L2.St} {H : Hp} (w1 : WSame f1) (w2 : WSame f2) (q : tS (sSwap i fe f1 f2) D σ H) : tAsg (tE fe) (gTup K 2 (gCons (L2.gSub (tVar i) (tW f1) rSetL) (gCons (L2.gSub (tVar i) (tW f2) rSetL) gNil))) D σ H := by
  obtain ⟨B, H0, R0, R, env, S, q⟩ := q
  unfold sSwap at q
  split at q
  · rename_i x y fr e1 h1
    split at q
    · rename_i k1 e2 h2
      split at q
      · rename_i ds h3
        split at q
        · rename_i j1 h4
          split at q
          · rename_i k2 e3 h5
            split at q
            · rename_i j2 h6
              have ee := w1 _ _ h2
              have ef := w2 _ _ h5
              simp only at ee ef
              subst ee ef
              refine ⟨B, H0, R0, R, env, _, fr, _, S, h1, fun w R' H' S' i1 ja r => ?_⟩
              obtain ⟨R2, i2, S2, hd⟩ := r.share S'
              cases hd with
              | tup ha hb =>
                cases hb with
                | cons hx hb =>
                  cases hb with
                  | cons hy hb =>
                    cases hb
                    refine ⟨_, _, rfl, .inl (.inl (ex_rq S2.rh ha)), rfl, _, _, rfl, ?_⟩
                    obtain ⟨a, vs, ds1, ed, g1, g2, g3, g4, g5⟩ := S2.own i _ h3
                    cases ed
                    refine ⟨_, g1, B, H0, R0, R2, _, _, _, S2, h2, fun u R3 H3 S3 i3 j3 t3 => ?_⟩
                    have eu := top_int t3
                    subst eu
                    obtain ⟨a', vs', ds1, ed', f1', f2', f3, f4, f5⟩ := S3.own i _ h3
                    rw [g1] at f1'
                    cases f1'
                    cases ed'
                    refine ⟨a, vs', k1, j1, rfl, rfl, f2', by rw [dpa_len f5]; exact h4, ?_⟩
                    have S4 := S3.writeO h3 g1 (dpa_set (dp_mono i3 hx) j1 f5)
                    have hl := (List.getElem?_eq_some_iff.mp h3).1
                    have h3' := List.getElem?_set_self (a := (some (PyData.list (ds.set j1 x), true))) hl
                    refine ⟨_, _, rfl, _, g1, B, H0, R0, R3, _, _, _, S4, h5, fun u R5 H5 S5 i5 j5 t5 => ?_⟩
                    have eu := top_int t5
                    subst eu
                    obtain ⟨a2, vs2, ds2, ed2, p1, p2, p3, p4, p5⟩ := S5.own i _ h3'
                    rw [g1] at p1
                    cases p1
                    cases ed2
                    refine ⟨a, vs2, k2, j2, rfl, rfl, p2, by rw [dpa_len p5, List.length_set]; exact h6, rfl, ?_⟩
                    exact q σ R5 _ (S5.writeO h3' g1 (dpa_set (dp_mono (i3.trans i5) hy) j2 p5)) (((i1.trans i2).trans i3).trans i5)
            · exact q.elim
          · exact q.elim
        · exact q.elim
      · exact q.elim
    · exact q.elim
  · exact q.elim
theorem qs_swap {tg : Expr} {i : Nat} (h : PS X (.Assign [tg] e pos) (tAsg (tE fe) (gTup X.K 2 (gCons (L2.gSub (tVar i) (tW f1) rSetL) (gCons (L2.gSub (tVar i) (tW f2) rSetL) gNil))))) (w1 : WSame f1) (w2 : WSame f2) : PS X (.Assign [tg] e pos) (tS (sSwap i fe f1 f2)) := PS.imp h fun D σ H q => swap_ok w1 w2 q
end
end Fw
namespace Fw
open PySem PySem.Spec PyProof.Rows L2 Evl

/-! the worth of a table by its rows from the first on, over the places that are left -/
def cellR (rows : List (List Int)) (i j : Nat) : Int := (rows.getD i []).getD j 0
/-- f 0 - f 1 + f 2 .. (n of them) -/
def wAcc (f : Nat → Int) : Nat → Int
  | 0 => 0
  | k + 1 => if k % 2 = 0 then wAcc f k + f k else wAcc f k - f k
def dropAt {α : Type} (ps : List α) (a : Nat) : List α := ps.take a ++ ps.drop (a + 1)
def worthN (rows : List (List Int)) : Nat → List Nat → Int
  | 0, _ => 1
  | m + 1, ps => wAcc (fun a => cellR rows (rows.length - (m + 1)) (ps.getD a 0) * worthN rows m (dropAt ps a)) (m + 1)
theorem dropAt_len {α : Type} {ps : List α} {a m : Nat} (h : ps.length = m + 1) (ha : a < m + 1) : (dropAt ps a).length = m := by
  unfold dropAt
  rw [List.length_append, List.length_take, List.length_drop]
  omega
theorem dropAt_mem {α : Type} {ps : List α} {a : Nat} {x : α} (h : x ∈ dropAt ps a) : x ∈ ps := by
  rcases List.mem_append.mp h with h | h
  · exact List.mem_of_mem_take h
  · exact List.mem_of_mem_drop h
theorem wAcc_congr {f g : Nat → Int} : ∀ {n : Nat}, (∀ a, a < n → f a = g a) → wAcc f n = wAcc g n
  | 0, _ => rfl
  | n + 1, h => by
    unfold wAcc
    rw [wAcc_congr fun a ha => h a (Nat.lt_succ_of_lt ha), h n (Nat.lt_succ_self n)]
/-- how many are noted at most -/
def wNew : Nat → Nat
  | 0 => 0
  | m + 1 => 1 + (m + 1) * wNew m
def vn (n : Nat) : V := .int (n : Int)
def kn (n : Nat) : Key := .inl (n : Int)
def keyOf (ps : List Nat) : List Key := ps.map kn
theorem keyOf_v (ps : List Nat) : (keyOf ps).map kV = ps.map vn := by
  unfold keyOf
  rw [List.map_map]
  rfl
theorem keyOf_inj {a b : List Nat} (h : keyOf a = keyOf b) : a = b := by
  unfold keyOf at h
  induction a generalizing b with
  | nil => cases b with
    | nil => rfl
    | cons _ _ => cases h
  | cons x r ih => cases b with
    | nil => cases h
    | cons y q =>
      rw [List.map_cons, List.map_cons] at h
      injection h with h1 h2
      injection h1 with h3
      rw [Int.ofNat.inj h3, ih h2]
structure RowsGood (rows : List (List Int)) : Prop where
  few : rows.length ≤ 8
  all : ∀ row ∈ rows, rows.length ≤ row.length ∧ ∀ e ∈ row, -(2 ^ 64) < e ∧ e < 2 ^ 64
def RowsAt (H : Hp) (r : Addr) (rows : List (List Int)) : Prop :=
  ∃ vs : List V, H r = some (.lst vs) ∧ vs.length = rows.length ∧ ∀ (i : Nat) (row : List Int), rows[i]? = some row → ∃ a, vs[i]? = some (.ref a) ∧ H a = some (.lst (row.map V.int))
def Noted (rows : List (List Int)) (kvs : List (List Key × V)) : Prop := ∀ k v, valV kvs k = some v → ∃ ps, k = keyOf ps ∧ v = .int (worthN rows ps.length ps)
/-- all but the record at d stays -/
def Keeps (d : Addr) (H H' : Hp) : Prop := ∀ b o, b ≠ d → H b = some o → H' b = some o
theorem Keeps.refl (d : Addr) (H : Hp) : Keeps d H H := fun _ _ _ h => h
theorem Keeps.trans {d : Addr} {H H' H2 : Hp} (a : Keeps d H H') (b : Keeps d H' H2) : Keeps d H H2 := fun x o n h => b x o n (a x o n h)
theorem Keeps.new {d p : Addr} {H : Hp} {o : HO} (h : H p = none) : Keeps d H (upd H p o) := fun b ob _ hb => by
  by_cases e : b = p
  · subst e
    rw [h] at hb
    cases hb
  · rw [upd_ne e]
    exact hb
theorem Keeps.put {d : Addr} {H : Hp} {o : HO} : Keeps d H (upd H d o) := fun b ob n hb => by
  rw [upd_ne n]
  exact hb
theorem Keeps.at {d b : Addr} {H H' : Hp} {o : HO} {kvs : List (List Key × V)} (k : Keeps d H H') (hd : H d = some (.dT kvs)) (hb : H b = some o) (n : ∀ m, o ≠ .dT m) : H' b = some o := by
  refine k b o (fun e => ?_) hb
  subst e
  rw [hd] at hb
  cases hb
  exact n _ rfl
theorem RowsAt.keep {d r : Addr} {H H' : Hp} {rows : List (List Int)} {kvs : List (List Key × V)} (k : Keeps d H H') (hd : H d = some (.dT kvs)) (h : RowsAt H r rows) : RowsAt H' r rows := by
  obtain ⟨vs, h1, h2, h3⟩ := h
  refine ⟨vs, k.at hd h1 (fun m e => nomatch e), h2, fun i row q => ?_⟩
  obtain ⟨a, q1, q2⟩ := h3 i row q
  exact ⟨a, q1, k.at hd q2 (fun m e => nomatch e)⟩
theorem Noted.put {rows : List (List Int)} {kvs : List (List Key × V)} (h : Noted rows kvs) (ps : List Nat) : Noted rows (putK kvs (keyOf ps) (.int (worthN rows ps.length ps))) := fun k v q => by
  rw [valV_put] at q
  split at q
  · rename_i e
    cases q
    exact ⟨ps, e, rfl⟩
  · exact h k v q
/-- what a rest of m rows answers -/
def spRest (rows : List (List Int)) (m : Nat) : Sp := fun vs H Q _ => ∃ (r p d : Addr) (ps : List Nat) (kvs : List (List Key × V)), vs = [.ref r, .ref p, .ref d] ∧ RowsGood rows ∧ RowsAt H r rows ∧ H p = some (.tup (ps.map vn)) ∧ ps.length = m ∧ m ≤ rows.length ∧
  (∀ x ∈ ps, x < rows.length) ∧ H d = some (.dT kvs) ∧ Noted rows kvs ∧ kvs.length + wNew m ≤ 1000000 ∧
  ∀ H' kvs', Keeps d H H' → H' d = some (.dT kvs') → Noted rows kvs' → kvs'.length ≤ kvs.length + wNew m → Q (.int (worthN rows m ps)) H'
/-- .. and by its first row, m + 1 of them -/
def spFirst (rows : List (List Int)) : Nat → Sp
  | 0 => fun _ _ _ _ => False
  | m + 1 => fun vs H Q _ => ∃ (r p d : Addr) (ps : List Nat) (kvs : List (List Key × V)), vs = [.ref r, .ref p, .ref d] ∧ RowsGood rows ∧ RowsAt H r rows ∧ H p = some (.tup (ps.map vn)) ∧ ps.length = m + 1 ∧ m + 1 ≤ rows.length ∧
    (∀ x ∈ ps, x < rows.length) ∧ H d = some (.dT kvs) ∧ Noted rows kvs ∧ kvs.length + (m + 1) * wNew m ≤ 1000000 ∧
    ∀ H' kvs', Keeps d H H' → H' d = some (.dT kvs') → Noted rows kvs' → kvs'.length ≤ kvs.length + (m + 1) * wNew m → Q (.int (worthN rows (m + 1) ps)) H'
theorem fn_never {P : Program} {w : World} {K : PySem.W.Frag} {mg : Str → Option Value} {base : Heap} {k : Nat} {f : Addr} {fd : FuncData} {ps : List Str} : FnOk P w K mg base CX0 k f fd ps (fun _ _ _ _ => False) := ⟨fun _ _ _ _ h => h.elim, fun _ _ _ _ _ _ _ _ _ _ _ _ _ h => h.elim⟩
/-! slices and sums of tuples, whether new or the same -/
theorem slA_any {K : PySem.W.Frag} {a : Addr} {xs : List V} {lo hi : Option Int} {H : Hp} {Q : VK} (h : H a = some (.tup xs)) (q : ∀ b H', Ex H H' → H' b = some (.tup (cutA xs lo hi)) → Q (.ref b) H') : rSlA K (.ref a) lo hi H Q := by
  refine ⟨a, xs, rfl, SqT.of h, fun e => q a H (Ex.refl H) ?_, fun _ p hp => q p _ (Ex.new hp) upd_same⟩
  have : cutA xs lo hi = xs := by
    unfold cutA
    rw [e.1, e.2, List.drop_zero, Nat.sub_zero, List.take_length]
  rw [this]
  exact h
theorem catA_any {K : PySem.W.Frag} {a b : Addr} {xs ys : List V} {H : Hp} {Q : VK} (h : H a = some (.tup xs)) (h2 : H b = some (.tup ys)) (hl : xs.length + ys.length ≤ 1000) (q : ∀ c H', Ex H H' → H' c = some (.tup (xs ++ ys)) → Q (.ref c) H') : rCatA K (.ref a) (.ref b) H Q := by
  refine ⟨a, b, xs, ys, rfl, rfl, SqT.of h, SqT.of h2, Nat.le_trans hl (by decide), fun e => q b H (Ex.refl H) ?_, fun _ e => q a H (Ex.refl H) ?_, fun _ _ p hp => q p _ (Ex.new hp) upd_same⟩
  · rw [e]
    exact h2
  · rw [e, List.append_nil]
    exact h
theorem Keeps.ex {d : Addr} {H H' : Hp} (e : Ex H H') : Keeps d H H' := fun b o _ h => e b o h
/-- a def that stands at a name of the module and keeps a promise -/
structure HasS (P : Program) (w : World) (K : PySem.W.Frag) (mg : Str → Option Value) (base : Heap) (k : Nat) (x : Str) (sp : Sp) : Prop where
  ex : ∃ (f : Addr) (fd : FuncData) (ps : List Str), mg x = some (.ref f) ∧ PySem.W.keepIn K (.ref f) = true ∧ Binds K fd ps [] ∧ FnOk P w K mg base CX0 k f fd ps sp
theorem pe_callS {X : Cx} {k : Nat} {sp : Sp} {x : Str} {p pos : Pos} {e : Expr} {es : List Expr} {t : TA} (h : HasS X.prog X.w X.K X.mg X.base k x sp) (hr : Room k X.A) (hg : Gl X x) (ha : PA X (e :: es) t)
    (hdb : (x == ("__debug__" : Str)) = false := by decide) (he : starEach (e :: es) X.env = (false, eval e X.env) :: starEach es X.env := by rfl) (hpl : (backTo pos (starEach es X.env)).any (·.1) = false := by rfl) :
    PE X (.Call (.Name x p) (e :: es) [] pos) (tCall sp [] E0 t) := by
  obtain ⟨f, fd, ps, hm, hk, hb, F⟩ := h
  exact pe_call F hr hg hm hk hb .nil pass0 ha hdb he hpl
/-! as data -/
def rowsOf : List PyData → Option (List (List Int))
  | [] => some []
  | .list l :: r => (intsOf l).bind fun ns => (rowsOf r).map (ns :: ·)
  | _ :: _ => none
def rowsD (rows : List (List Int)) : List PyData := rows.map fun r => .list (r.map .int)
theorem rowsOf_D (rows : List (List Int)) : rowsOf (rowsD rows) = some rows := by
  induction rows with
  | nil => rfl
  | cons x r ih =>
    show (intsOf (x.map .int)).bind (fun ns => (rowsOf (rowsD r)).map (ns :: ·)) = _
    rw [intsOf_map, ih]
    rfl
theorem rowsOf_eq : ∀ {ds : List PyData} {rows : List (List Int)}, rowsOf ds = some rows → ds = rowsD rows
  | [], _, h => by cases h; rfl
  | .list l :: r, rows, h => by
    unfold rowsOf at h
    cases h1 : intsOf l with
    | none => rw [h1] at h; cases h
    | some ns =>
      cases h2 : rowsOf r with
      | none => rw [h1, h2] at h; cases h
      | some rs =>
        rw [h1, h2] at h
        cases h
        rw [intsOf_eq h1, rowsOf_eq h2]
        rfl
  | .none :: _, _, h => by cases h
  | .bool _ :: _, _, h => by cases h
  | .int _ :: _, _, h => by cases h
  | .str _ :: _, _, h => by cases h
  | .tuple _ :: _, _, h => by cases h
  | .dict _ :: _, _, h => by cases h
def goodB (rows : List (List Int)) : Bool := decide (rows.length ≤ 8) && rows.all fun row => decide (rows.length ≤ row.length) && row.all fun e => decide (-(2 ^ 64) < e) && decide (e < 2 ^ 64)
theorem goodB_iff {rows : List (List Int)} : goodB rows = true ↔ RowsGood rows := by
  unfold goodB
  simp only [Bool.and_eq_true, decide_eq_true_eq, List.all_eq_true]
  exact ⟨fun h => ⟨h.1, h.2⟩, fun h => ⟨h.few, h.all⟩⟩
def worthR (rows : List (List Int)) : Int := worthN rows rows.length (List.range rows.length)
def g_worth_of : GFn
  | [.list l] => (rowsOf l).bind fun rows => if goodB rows then some (.int (worthR rows), false) else none
  | _ => none
theorem g_worth_of_D {rows : List (List Int)} (h : RowsGood rows) : g_worth_of [.list (rowsD rows)] = some (.int (worthR rows), false) := by
  unfold g_worth_of
  simp only [rowsOf_D, Option.bind_some]
  rw [if_pos (goodB_iff.mpr h)]
theorem rowsAt_of {R H : Hp} {a : Addr} {vs : List V} {rows : List (List Int)} (e : Ex R H) (h : Rq H a (.lst vs)) (hd : DqAll R vs (rowsD rows)) : RowsAt H a rows := by
  refine ⟨vs, h, ?_, fun i row q => ?_⟩
  · rw [dpa_len hd]
    unfold rowsD
    rw [List.length_map]
  · obtain ⟨v, h1, h2⟩ := dpa_get hd (i := i) (d := .list (row.map .int)) (by unfold rowsD; rw [List.getElem?_map, q]; rfl)
    cases h2 with
    | @lst b xs _ q1 q2 =>
      rw [dpa_ints q2] at q1
      exact ⟨b, h1, e _ _ q1⟩
theorem rg_vn (n : Nat) : rgV 0 (n : Nat) = (List.range n).map vn := by
  unfold rgV vn
  simp
theorem HasS.mono {P : Program} {w : World} {K : PySem.W.Frag} {mg : Str → Option Value} {base : Heap} {j k : Nat} {x : Str} {sp : Sp} (h : HasS P w K mg base j x sp) (l : j ≤ k) : HasS P w K mg base k x sp := by
  obtain ⟨f, fd, ps, h1, h2, h3, F⟩ := h
  exact ⟨f, fd, ps, h1, h2, h3, F.mono l⟩
end Fw
namespace Fw
open PySem PySem.Spec PyProof.Rows L2 Evl
/-! the worth by first rows, the rows at hand -/
def lawN : Nat → List (List Int) → Int
  | 0, _ => 1
  | n + 1, rows => wAcc (fun k => cellR rows 0 k * lawN n (rows.tail.map fun r => dropAt r k)) (n + 1)
theorem dropAt_map {α β : Type} (f : α → β) (l : List α) (a : Nat) : dropAt (l.map f) a = (dropAt l a).map f := by
  unfold dropAt
  rw [List.map_append, List.map_take, List.map_drop]
theorem getD_map0 {α : Type} (f : α → Int) (l : List α) (d : α) (k : Nat) (h : k < l.length) : (l.map f).getD k 0 = f (l.getD k d) := by
  rw [List.getD_eq_getElem?_getD, List.getElem?_map, List.getElem?_eq_getElem h, List.getD_eq_getElem?_getD, List.getElem?_eq_getElem h]
  rfl
theorem worth_law (rows : List (List Int)) : ∀ (m : Nat) (ps : List Nat), ps.length = m → m ≤ rows.length → worthN rows m ps = lawN m ((rows.drop (rows.length - m)).map fun row => ps.map fun p => row.getD p 0)
  | 0, _, _, _ => rfl
  | m + 1, ps, h, hm => by
    unfold worthN lawN
    refine wAcc_congr fun a ha => ?_
    have hd : rows.drop (rows.length - (m + 1)) = rows[rows.length - (m + 1)] :: rows.drop (rows.length - m) := by
      rw [List.drop_eq_getElem_cons (by omega), show rows.length - (m + 1) + 1 = rows.length - m by omega]
    rw [hd, List.map_cons, List.tail_cons, List.map_map, worth_law rows m (dropAt ps a) (dropAt_len h ha) (by omega)]
    have c1 : cellR rows (rows.length - (m + 1)) (ps.getD a 0) = cellR ((ps.map fun p => rows[rows.length - (m + 1)].getD p 0) :: (rows.drop (rows.length - m)).map fun row => ps.map fun p => row.getD p 0) 0 a := by
      unfold cellR
      rw [List.getD_cons_zero, getD_map0 _ ps 0 a (by omega), List.getD_eq_getElem?_getD (l := rows), List.getElem?_eq_getElem (show rows.length - (m + 1) < rows.length by omega), Option.getD_some]
    rw [c1]
    congr 2
    refine List.map_congr_left fun row _ => ?_
    exact (dropAt_map _ ps a).symm
theorem worthR_law {rows : List (List Int)} (h : ∀ row ∈ rows, row.length = rows.length) : worthR rows = lawN rows.length rows := by
  unfold worthR
  rw [worth_law rows _ _ List.length_range (Nat.le_refl _), Nat.sub_self, List.drop_zero]
  congr 1
  refine (List.map_congr_left (g := id) fun row hr => ?_).trans (List.map_id _)
  refine List.ext_getElem (by rw [List.length_map, List.length_range]; exact (h row hr).symm) fun i h1 h2 => ?_
  rw [List.getElem_map, List.getElem_range, List.getD_eq_getElem?_getD, List.getElem?_eq_getElem (show i < row.length from h2)]
  rfl
end Fw
namespace Kx
open PySem PySem.Spec PyProof.Rows L2 Evl Fw
def topS (i : Nat) : Stmt := PySem.Challenge.pw_treetally_k04_worths_by_first_rows.main.body.getD i (.Pass ⟨0, 0, 0, 0⟩)
abbrev s__worth_by_first_row : Stmt := topS 3
def N__worth_by_first_row : List Str := ["rows", "places", "known", "first", "worth", "at", "place", "rest", "share"]
theorem sc__worth_by_first_row : FnScope N__worth_by_first_row ["rows", "places", "known"] (defScope s__worth_by_first_row) := ⟨rfl, rfl, rfl, by decide +kernel, rfl, by decide +kernel, by decide +kernel⟩
abbrev s__worth_of_rest : Stmt := topS 2
def N__worth_of_rest : List Str := ["rows", "places", "known"]
theorem sc__worth_of_rest : FnScope N__worth_of_rest ["rows", "places", "known"] (defScope s__worth_of_rest) := ⟨rfl, rfl, rfl, by decide +kernel, rfl, by decide +kernel, by decide +kernel⟩
abbrev s_worth_of : Stmt := topS 1
def N_worth_of : List Str := ["rows"]
theorem sc_worth_of : FnScope N_worth_of ["rows"] (defScope s_worth_of) := ⟨rfl, rfl, rfl, by decide +kernel, rfl, by decide +kernel, by decide +kernel⟩
abbrev s__law_cell_at : Stmt := topS 5
def N__law_cell_at : List Str := ["_law_script", "_law_k"]
theorem sc__law_cell_at : FnScope N__law_cell_at ["_law_script", "_law_k"] (defScope s__law_cell_at) := ⟨rfl, rfl, rfl, by decide +kernel, rfl, by decide +kernel, by decide +kernel⟩
abbrev s__law_mixed : Stmt := topS 6
def N__law_mixed : List Str := ["_law_script", "_law_k"]
theorem sc__law_mixed : FnScope N__law_mixed ["_law_script", "_law_k"] (defScope s__law_mixed) := ⟨rfl, rfl, rfl, by decide +kernel, rfl, by decide +kernel, by decide +kernel⟩
abbrev s__law_number : Stmt := topS 7
def N__law_number : List Str := ["_law_script", "_law_k", "_law_wide", "_law_cell"]
theorem sc__law_number : FnScope N__law_number ["_law_script", "_law_k", "_law_wide"] (defScope s__law_number) := ⟨rfl, rfl, rfl, by decide +kernel, rfl, by decide +kernel, by decide +kernel⟩
abbrev s__law_rows : Stmt := topS 8
def N__law_rows : List Str := ["_law_script", "_law_first", "_law_size", "_law_wide", "_law_rows_here", "_law_i", "_law_some", "_law_many", "_law_last", "_law_k"]
theorem sc__law_rows : FnScope N__law_rows ["_law_script"] (defScope s__law_rows) := ⟨rfl, rfl, rfl, by decide +kernel, rfl, by decide +kernel, by decide +kernel⟩
abbrev s__law_worth : Stmt := topS 9
def N__law_worth : List Str := ["_law_rows_here", "_law_found", "_law_k", "_law_left", "_law_row"]
theorem sc__law_worth : FnScope N__law_worth ["_law_rows_here"] (defScope s__law_worth) := ⟨rfl, rfl, rfl, by decide +kernel, rfl, by decide +kernel, by decide +kernel⟩
abbrev s_law : Stmt := topS 10
def N_law : List Str := ["_law_script", "_law_rows_here", "_law_handed", "_law_found", "_law_row"]
theorem sc_law : FnScope N_law ["_law_script"] (defScope s_law) := ⟨rfl, rfl, rfl, by decide +kernel, rfl, by decide +kernel, by decide +kernel⟩
end Kx
namespace Kx
open PySem PySem.Spec PyProof.Rows L2 Evl Fw
def f__law_mixed (gc : GFn) : SF := (sRet (eBin gMod (wOf (eBin gAdd (wOf (eBin gMul (wOf (eCall gc (aCons (eVar 0) (bCons (wVar 1) aNil)))) (wOf (eC (.int 48271))))) (wOf (eBin gMul (wOf (eBin gMul (wOf (eC (.int 7919))) (wVar 1))) (wVar 1))))) (wOf (eC (.int 1000003)))))
def g__law_mixed (gc : GFn) : GFn := fun ds => if ds.length = 2 then outR (f__law_mixed gc (Fw.envOf 2 [false, true] ds)) else none
def f__law_number (gc : GFn) : SF := (seqS (sSet 3 (eBin gAdd (wOf (eCall (g__law_mixed gc) (aCons (eVar 0) (bCons (wOf (eBin gAdd (wOf (eC (.int 2))) (wVar 1))) aNil)))) (wOf (eBin gDiv (wOf (eCall (g__law_mixed gc) (aCons (eVar 0) (bCons (wOf (eBin gAdd (wOf (eC (.int 2))) (wOf (eBin gMod (wVar 1) (wOf (eC (.int 7))))))) aNil)))) (wOf (eC (.int 3)))))))
    (seqS (sIf (cAnd (tstE (eVar 2)) (tstE (eBin gEq (wOf (eBin gMod (wVar 3) (wOf (eC (.int 3))))) (wOf (eC (.int 0)))))) (sRet (eBin gSub (wOf (eBin gMod (wOf (eBin gAdd (wOf (eBin gMul (wVar 3) (wOf (eC (.int 1000003))))) (wOf (eBin gDiv (wVar 3) (wOf (eC (.int 7))))))) (wOf (eBin gPow (wOf (eC (.int 10))) (wOf (eC (.int 12))))))) (wOf (eBin gMul (wOf (eC (.int 5))) (wOf (eBin gPow (wOf (eC (.int 10))) (wOf (eC (.int 11))))))))) Out.nx)
    (sRet (eBin gSub (wOf (eBin gMod (wOf (eBin gDiv (wVar 3) (wOf (eC (.int 3))))) (wOf (eC (.int 7))))) (wOf (eC (.int 3)))))))
def g__law_number (gc : GFn) : GFn := fun ds => if ds.length = 3 then outR (f__law_number gc (Fw.envOf 4 [false, true, true] ds)) else none
def f__law_rows_b1 (gc : GFn) : SF := (seqS (sSet 6 (eBin gSub (wOf (eBin gMod (wOf (eBin gDiv (wOf (eCall (g__law_mixed gc) (aCons (eVar 0) (bCons (wOf (eC (.int 1))) aNil)))) (wOf (eBin gAdd (wOf (eC (.int 1))) (wOf (eBin gMul (wOf (eC (.int 5))) (wVar 5))))))) (wOf (eC (.int 5))))) (wOf (eC (.int 2)))))
    (seqS (sSet 7 (eCallB gMax2 (bCons (wOf (eC (.int 0))) (bCons (wOf (eCallB gMin2 (bCons (wVar 2) (bCons (wVar 6) aNil)))) aNil))))
    (sSetIx 4 (eBin gAdd (wOf (eBin gMul (wOf (eLst (aCons (eC (.int 0)) aNil))) (wVar 7))) (wOf (eSl (wOf (eBin gIx (wVar 4) (wVar 5))) (oYes (wVar 7)) oNo))) (wVar 5))))
def f__law_rows_b2 (gc : GFn) : SF := (sApp 4 (eLc (iR1 (aCons (eVar 2) aNil)) (gNm 9) gTst (eCall (g__law_number gc) (aCons (eVar 0) (bCons (wOf (eBin gAdd (wOf (eBin gMul (wVar 2) (wVar 5))) (wVar 9))) (bCons (wVar 3) aNil)))) [9]))
def f__law_rows (gc : GFn) : SF := (seqS (sSet 1 (eCall (g__law_mixed gc) (aCons (eVar 0) (bCons (wOf (eC (.int 0))) aNil))))
    (seqS (sSet 2 (eBin gMod (wVar 1) (wOf (eC (.int 6)))))
    (seqS (sSet 3 (eBin gEq (wOf (eBin gMod (wOf (eBin gDiv (wVar 1) (wOf (eC (.int 6))))) (wOf (eC (.int 3))))) (wOf (eC (.int 1)))))
    (seqS (sSet 4 (eLst aNil))
    (seqS (sFor (iR1 (aCons (eVar 2) aNil)) (gNm 5) (f__law_rows_b2 gc))
    (seqS (sFor (iR1 (aCons (eVar 2) aNil)) (gNm 5) (f__law_rows_b1 gc))
    (seqS (sIf (cAnd (tstE (eBin gGt (wVar 2) (wOf (eC (.int 2))))) (tstE (eBin gEq (wOf (eBin gMod (wOf (eBin gDiv (wVar 1) (wOf (eC (.int 18))))) (wOf (eC (.int 4))))) (wOf (eC (.int 1)))))) (seqS (sSet 8 (eBin gIx (wVar 4) (wOf (eBin gSub (wVar 2) (wOf (eC (.int 1)))))))
    (sSetIx 4 (eLc (iR1 (aCons (eVar 2) aNil)) (gNm 9) gTst (eBin gAdd (wOf (eBin gIx (wOf (eBin gIx (wVar 4) (wOf (eC (.int 0))))) (wVar 9))) (wOf (eBin gIx (wVar 8) (wVar 9)))) [9]) (wOf (eBin gMod (wOf (eBin gDiv (wVar 1) (wOf (eC (.int 72))))) (wVar 2))))) Out.nx)
    (sRet (eMv 4)))))))))
def g__law_rows (gc : GFn) : GFn := fun ds => if ds.length = 1 then outR (f__law_rows gc (Fw.envOf 10 [false] ds)) else none
def f__law_worth_b1 (gs : GFn) : SF := (sIf (tstE (eBin gNe (wOf (eBin gIx (wOf (eBin gIx (wVar 0) (wOf (eC (.int 0))))) (wVar 2))) (wOf (eC (.int 0))))) (seqS (sSet 3 (eCall gs (bCons (wOf (eLc (iLw (wOf (eSl (wVar 0) (oYes (wOf (eC (.int 1)))) oNo))) (gNm 4) gTst (eBin gAdd (wOf (eSl (wVar 4) oNo (oYes (wVar 2)))) (wOf (eSl (wVar 4) (oYes (wOf (eBin gAdd (wVar 2) (wOf (eC (.int 1)))))) oNo))) [4])) aNil)))
    (sSet 1 (eBin gAdd (wVar 1) (wOf (eBin gMul (wOf (eBin gMul (wOf (eBin gIx (wOf (eLst (aCons (eC (.int 1)) (aCons (eNeg (eC (.int 1))) aNil)))) (wOf (eBin gMod (wVar 2) (wOf (eC (.int 2))))))) (wOf (eBin gIx (wOf (eBin gIx (wVar 0) (wOf (eC (.int 0))))) (wVar 2))))) (wVar 3)))))) Out.nx)
def f__law_worth (gs : GFn) : SF := (seqS (sIf (tstE (eBin gEq (wVar 0) (wOf (eLst aNil)))) (sRet (eC (.int 1))) Out.nx)
    (seqS (sSet 1 (eC (.int 0)))
    (seqS (sFor (iR1 (aCons (eCallB gLen (bCons (wVar 0) aNil)) aNil)) (gNm 2) (f__law_worth_b1 gs))
    (sRet (eMv 1)))))
def g__law_worth : Nat → GFn
  | 0 => fun _ => none
  | m + 1 => fun ds => if ds.length = 1 then outR (f__law_worth (g__law_worth m) (Fw.envOf 5 [true] ds)) else none
def f_law (gc : GFn) : SF := (seqS (sSet 1 (eCall (g__law_rows gc) (aCons (eVar 0) aNil)))
    (seqS (sSet 2 (eLc (iLw (wVar 1)) (gNm 4) gTst (eCallB gList (bCons (wVar 4) aNil)) [4]))
    (seqS (sSet 3 (eCall g_worth_of (bCons (wVar 2) aNil)))
    (seqS (sIf (cOr (cNot (tstE (eIsi "int" (wVar 3)))) (cOr (tstE (eIsi "bool" (wVar 3))) (tstE (eBin gNe (wVar 3) (wOf (eCall (g__law_worth 6) (bCons (wVar 1) aNil))))))) (sRet (eC (.bool false))) Out.nx)
    (sRet (eBin gEq (wVar 2) (wVar 1)))))))
def g_law (gc : GFn) : GFn := fun ds => if ds.length = 1 then outR (f_law gc (Fw.envOf 5 [false] ds)) else none
end Kx
namespace Kx
open PySem PySem.Spec PyProof.Rows L2 Evl Fw
section
variable {P : Program} {w : World} {K : PySem.W.Frag} {mg : Str → Option Value} {base : Heap}
theorem ok_rest {rows : List (List Int)} {m k : Nat} {f : Addr} {fd : FuncData} (F : Fun K "_worth_of_rest" "_worth_of_rest" s__worth_of_rest f fd) (h1 : HasS P w K mg base k "_worth_by_first_row" (spFirst rows m)) (z_len : mg "len" = none) :
    FnOk P w K mg base CX0 (k + 1) f fd ["rows", "places", "known"] (spRest rows m) := by
  refine F.ok sc__worth_of_rest (fun vs H Q E h => by obtain ⟨r, p, d, ps, kvs, rfl, _⟩ := h; rfl) (fun cdv A outer s H vs Q E hr h => ?_)
  obtain ⟨r, p, d, ps, kvs, rfl, g, hR, hp, hm, hmr, hlt, hd, hN, hz, q⟩ := h
  refine ⟨_, pss_cons (ps_if (pt_cmpR op_eq (pe_callB call_len_seq (by rfl) z_len PySem.boot_len (pa_cons (pv 1) pa_nil)) pe_int (nomark _)) (pss_one (ps_ret pe_int)) pss_nil)
    (pss_cons (ps_if (pt_cmp (pc_dnotin (hu_of hr) (pv 1) (pv 2)) (by rfl)) (pss_one (ps_dput (hu_of hr) (pv 2) (pv 1) (pe_callS h1 hr (by rfl) (pa_cons (pv 0) (pa_cons (pv 1) (pa_cons (pv 2) pa_nil)))) (by rfl))) pss_nil)
    (pss_one (ps_ret (pe_dget (hu_of hr) (pv 2) (pv 1) (fun _ _ => rfl))))), ?_⟩
  have hpk : H p = some (.tup ((keyOf ps).map kV)) := by rw [keyOf_v]; exact hp
  refine ⟨.ref p, rfl, p, ps.map vn, rfl, .inr (SqT.of hp), rfl, _, rfl, ite2 (fun hc => ?_) (fun hc => ?_)⟩
  · have h0 : ps.length = 0 := by
      have := of_decide_eq_true hc
      injection this with this
      rw [List.length_map] at this
      omega
    have hm0 : m = 0 := by omega
    subst hm0
    exact q H kvs (Keeps.refl d H) hd hN (Nat.le_add_right _ _)
  · cases m with
    | zero =>
      refine absurd (decide_eq_true ?_) hc
      rw [List.length_map, hm]
      rfl
    | succ m =>
      refine ⟨.ref p, rfl, .ref d, rfl, d, _, rfl, DGet.t hd hpk, _, rfl, ite2 (fun hn => ?_) (fun hn => ?_)⟩
      · refine ⟨.ref r, rfl, .ref p, rfl, .ref d, rfl, r, p, d, ps, kvs, rfl, g, hR, hp, hm, hmr, hlt, hd, hN, by unfold wNew at hz; omega, fun H' kvs' kp hd' hN' hl => ?_⟩
        have hp' : H' p = some (.tup ((keyOf ps).map kV)) := kp.at hd hpk (fun _ e => nomatch e)
        have hsz : kvs'.length < sizeLine := by
          have : wNew (m + 1) = 1 + (m + 1) * wNew m := rfl
          rw [sizeLine_eq]
          omega
        refine ⟨.ref d, rfl, .ref p, rfl, d, _, rfl, DPut.t hd' hp' hsz, ?_⟩
        have hpd : p ≠ d := fun e => by
          subst e
          rw [hp] at hd
          cases hd
        have hv : valV (putK kvs' (keyOf ps) (.int (worthN rows (m + 1) ps))) (keyOf ps) = some (.int (worthN rows (m + 1) ps)) := by rw [valV_put, if_pos rfl]
        have hg := DGet.t (k := keyOf ps) (b := p) (upd_same (H := H') (a := d) (o := .dT (putK kvs' (keyOf ps) (.int (worthN rows (m + 1) ps))))) (by rw [upd_ne hpd]; exact hp')
        rw [hv] at hg
        refine ⟨.ref d, rfl, .ref p, rfl, d, _, rfl, hg, ?_⟩
        refine q _ _ (kp.trans Keeps.put) upd_same ?_ ?_
        · have := hN'.put ps
          rw [hm] at this
          exact this
        · have h1 := length_putK kvs' (keyOf ps) (.int (worthN rows (m + 1) ps))
          have : wNew (m + 1) = 1 + (m + 1) * wNew m := rfl
          omega
      · cases hv : valV kvs (keyOf ps) with
        | none =>
          rw [hv] at hn
          exact absurd rfl hn
        | some v =>
          obtain ⟨ps', e1, e2⟩ := hN _ _ hv
          have e3 := keyOf_inj e1
          subst e3
          rw [hm] at e2
          subst e2
          have hg := DGet.t (k := keyOf ps) (b := p) hd hpk
          rw [hv] at hg
          exact ⟨.ref d, rfl, .ref p, rfl, d, _, rfl, hg, q H kvs (Keeps.refl d H) hd hN (Nat.le_add_right _ _)⟩
theorem ok_first {rows : List (List Int)} {m k : Nat} {f : Addr} {fd : FuncData} (F : Fun K "_worth_by_first_row" "_worth_by_first_row" s__worth_by_first_row f fd) (h1 : HasS P w K mg base k "_worth_of_rest" (spRest rows m)) (z_len : mg "len" = none) (z_enumerate : mg "enumerate" = none) :
    FnOk P w K mg base CX0 (k + 1) f fd ["rows", "places", "known"] (spFirst rows (m + 1)) := by
  refine F.ok sc__worth_by_first_row (fun vs H Q E h => by obtain ⟨r, p, d, ps, kvs, rfl, _⟩ := h; rfl) (fun cdv A outer s H vs Q E hr h => ?_)
  obtain ⟨r, p, d, ps, kvs, rfl, g, hR, hp, hm, hmr, hlt, hd, hN, hz, q⟩ := h
  refine ⟨_, pss_cons (ps_set (i := 3) sc__worth_by_first_row.nd rfl (by first | exact Or.inl rfl | exact Or.inr rfl) (pe_ix ix_list (pv 0) (pe_op op_sub (pe_callB call_len_seq (by rfl) z_len PySem.boot_len (pa_cons (pv 0) pa_nil)) (pe_callB call_len_seq (by rfl) z_len PySem.boot_len (pa_cons (pv 1) pa_nil))) (fun _ _ => rfl)))
    (pss_cons (ps_set (i := 4) sc__worth_by_first_row.nd rfl (by first | exact Or.inl rfl | exact Or.inr rfl) pe_int)
    (pss_cons (ps_for PassesOwn.never rfl (pi_en (by rfl) z_enumerate (pa_cons (pv 1) pa_nil)) (pg_tup (n := 2) rfl (pgs_cons (pg_name (i := 5) sc__worth_by_first_row.nd rfl (by first | exact Or.inl rfl | exact Or.inr rfl)) (pgs_cons (pg_name (i := 6) sc__worth_by_first_row.nd rfl (by first | exact Or.inl rfl | exact Or.inr rfl)) pgs_nil)))
      (pss_cons (ps_set (i := 7) sc__worth_by_first_row.nd rfl (by first | exact Or.inl rfl | exact Or.inr rfl) (pe_op op_catA (pe_slice sl_tupA (pv 1) po_none (po_some (pv 5))) (pe_slice sl_tupA (pv 1) (po_some (pe_op op_add (pv 5) pe_int)) po_none)))
      (pss_cons (ps_set (i := 8) sc__worth_by_first_row.nd rfl (by first | exact Or.inl rfl | exact Or.inr rfl) (pe_op op_mul (pe_ix ix_list (pv 3) (pv 6) (fun _ _ => rfl)) (pe_callS h1 hr (by rfl) (pa_cons (pv 0) (pa_cons (pv 7) (pa_cons (pv 2) pa_nil))))))
      (pss_one (ps_if (pt_cmpR op_eq (pe_op op_mod (pv 5) pe_int) pe_int (nomark _)) (pss_one (ps_aug (i := 4) sc__worth_by_first_row.nd rfl (by first | exact Or.inl rfl | exact Or.inr rfl) (pv 8) ip_add)) (pss_one (ps_aug (i := 4) sc__worth_by_first_row.nd rfl (by first | exact Or.inl rfl | exact Or.inr rfl) (pv 8) ip_sub)))))))
    (pss_one (ps_ret (pv 4))))), ?_⟩
  have hR0 := hR
  obtain ⟨vs, hv1, hv2, hv3⟩ := hR
  have hrow : rows.length - (m + 1) < rows.length := by omega
  obtain ⟨a, ha1, ha2⟩ := hv3 _ _ (List.getElem?_eq_getElem hrow)
  have grow := g.all _ (List.getElem_mem hrow)
  have cell : ∀ j : Nat, cellR rows (rows.length - (m + 1)) j = (rows[rows.length - (m + 1)]).getD j 0 := fun j => by
    have e : rows.getD (rows.length - (m + 1)) [] = rows[rows.length - (m + 1)] := by
      rw [List.getD_eq_getElem?_getD, List.getElem?_eq_getElem hrow]
      rfl
    unfold cellR
    rw [e]
  have hat : atI vs ((vs.length : Int) - ((ps.map vn).length : Nat)) = some (.ref a) := at_of (j := rows.length - (m + 1)) (by rw [hv2, List.length_map, hm]; omega) ha1
  refine ⟨.ref r, rfl, .ref r, rfl, r, vs, rfl, .inl (SqL.of hv1), .ref p, rfl, p, ps.map vn, rfl, .inr (SqT.of hp), _, _, rfl, rfl, r, vs, _, .ref a, rfl, rfl, SqL.of hv1, hat, ?_⟩
  refine ⟨.ref p, rfl, p, ps.map vn, rfl, SqT.of hp, ?_⟩
  generalize hF : (fun j => cellR rows (rows.length - (m + 1)) (ps.getD j 0) * worthN rows m (dropAt ps j)) = F
  refine for_it (walk_en (xs := ps.map vn)) (fun i σ H' => ∃ (kvs' : List (List Key × V)) (x5 x6 x7 x8 : Option V), σ = [some (.ref r), some (.ref p), some (.ref d), some (.ref a), some (.int (wAcc F i)), x5, x6, x7, x8] ∧
    Keeps d H H' ∧ H' d = some (.dT kvs') ∧ Noted rows kvs' ∧ kvs'.length ≤ kvs.length + i * wNew m) ?_ ?_ ?_ ?_
  · exact ⟨kvs, none, none, none, none, rfl, Keeps.refl d H, hd, hN, by omega⟩
  · rintro i σ H' _ ⟨kvs', x5, x6, x7, x8, rfl, kp, _⟩
    exact SqT.of (kp.at hd hp (fun _ e => nomatch e))
  · rintro i x σ H1 H2 hi ⟨kvs', x5, x6, x7, x8, rfl, kp, hd1, hN1, hl1⟩ ⟨T, x1, y, rfl, hT, rfl, ex, ey⟩
    cases ex
    have hi' : i < ps.length := by
      rw [List.length_map] at hi
      exact hi
    have ey' : y = vn ps[i] := by
      have ey2 : (ps.map vn)[i]? = some y := ey
      rw [List.getElem?_map, List.getElem?_eq_getElem hi'] at ey2
      exact (Option.some.inj ey2).symm
    subst ey'
    have kT : Keeps d H1 (upd H1 T (.tup [.int (i : Nat), vn ps[i]])) := Keeps.new hT
    have kp2 := kp.trans kT
    have hp2 := kp2.at hd hp (fun _ e => nomatch e)
    have hTd : T ≠ d := fun e => by
      subst e
      rw [hT] at hd1
      cases hd1
    have hd2 : upd H1 T (.tup [.int (i : Nat), vn ps[i]]) d = some (.dT kvs') := by
      rw [upd_ne (Ne.symm hTd)]
      exact hd1
    refine ⟨T, _, rfl, SqT.of upd_same, rfl, _, _, rfl, _, _, rfl, rfl, ?_⟩
    generalize upd H1 T (.tup [.int (i : Nat), vn ps[i]]) = H2 at kT kp2 hp2 hd2
    refine ⟨.ref p, rfl, .int (i : Nat), rfl, i, rfl, slA_any hp2 fun b H3 k3 hb => ?_⟩
    have hp3 := k3 _ _ hp2
    refine ⟨.ref p, rfl, .int (i : Nat), rfl, _, _, rfl, rfl, _, rfl, ?_⟩
    unfold tNoPart
    refine slA_any hp3 fun b2 H4 k4 hb2 => ?_
    have cut : cutA (ps.map vn) none (some ((i : Nat) : Int)) ++ cutA (ps.map vn) (some (((i : Nat) : Int) + 1)) none = (dropAt ps i).map vn := by
      rw [cutA_to _ (by omega), cutA_from _ (by omega), show (((i : Nat) : Int) + 1).toNat = i + 1 by omega, Int.toNat_natCast]
      unfold dropAt
      rw [List.map_append, List.map_take, List.map_drop]
    have dl : (dropAt ps i).length = m := dropAt_len hm (by omega)
    refine catA_any (k4 _ _ hb) hb2 ?_ fun c H5 k5 hc => ?_
    · have := g.few
      rw [← List.length_append, cut, List.length_map, dl]
      omega
    rw [cut] at hc
    have e5 := (k3.trans k4).trans k5
    have kp5 := kp2.trans (Keeps.ex e5)
    have hd5 := e5 _ _ hd2
    have ha5 := kp5.at hd ha2 (fun _ e => nomatch e)
    have hpi : ps[i] < rows.length := hlt _ (List.getElem_mem hi')
    have hpr : ps[i] < rows[rows.length - (m + 1)].length := Nat.lt_of_lt_of_le hpi grow.1
    have hcell : atI (rows[rows.length - (m + 1)].map V.int) ((ps[i] : Nat) : Int) = some (.int (rows[rows.length - (m + 1)][ps[i]])) := at_of rfl (by rw [List.getElem?_map, List.getElem?_eq_getElem hpr]; rfl)
    have bound := grow.2 _ (List.getElem_mem hpr)
    have hFi : rows[rows.length - (m + 1)][ps[i]] * worthN rows m (dropAt ps i) = F i := by
      rw [← hF]
      show _ = cellR rows (rows.length - (m + 1)) (ps.getD i 0) * worthN rows m (dropAt ps i)
      rw [cell, List.getD_eq_getElem?_getD (l := ps), List.getElem?_eq_getElem hi', Option.getD_some, List.getD_eq_getElem?_getD, List.getElem?_eq_getElem hpr, Option.getD_some]
    refine ⟨.ref a, rfl, vn ps[i], rfl, a, _, _, _, rfl, rfl, SqL.of ha5, hcell, .ref r, rfl, .ref c, rfl, .ref d, rfl, ?_⟩
    have stepN : (i + 1) * wNew m = i * wNew m + wNew m := Nat.succ_mul _ _
    have bigN : (i + 1) * wNew m ≤ (m + 1) * wNew m := Nat.mul_le_mul_right _ (by omega)
    refine ⟨r, c, d, dropAt ps i, kvs', rfl, g, hR0.keep kp5 hd, hc, dl, by omega, fun x hx => hlt x (dropAt_mem hx), hd5, hN1, by omega, fun H6 kvs2 kp6 hd6 hN6 hl6 => ?_⟩
    refine ⟨_, _, rfl, rfl, .inl bound, ?_⟩
    refine ⟨.int ((i : Nat) : Int), rfl, _, _, rfl, rfl, (show (0 : Int) < 2 by decide), rfl, _, rfl, ite2 (fun hc => ?_) (fun hc => ?_)⟩
    · have hi0 : i % 2 = 0 := by
        have := of_decide_eq_true hc
        injection this with this
        omega
      have e4 : wAcc F (i + 1) = wAcc F i + rows[rows.length - (m + 1)][ps[i]] * worthN rows m (dropAt ps i) := by
        rw [hFi]
        exact if_pos hi0
      refine ⟨_, rfl, _, rfl, _, _, rfl, rfl, kvs2, some (.int (i : Nat)), some (vn ps[i]), some (.ref c), some (.int (rows[rows.length - (m + 1)][ps[i]] * worthN rows m (dropAt ps i))), by rw [e4]; rfl, kp5.trans kp6, hd6, hN6, by omega⟩
    · have hi0 : ¬ i % 2 = 0 := fun z => by
        refine hc (decide_eq_true ?_)
        show V.int (((i : Nat) : Int) % 2) = V.int 0
        rw [show ((i : Nat) : Int) % 2 = 0 by omega]
      have e4 : wAcc F (i + 1) = wAcc F i - rows[rows.length - (m + 1)][ps[i]] * worthN rows m (dropAt ps i) := by
        rw [hFi]
        exact if_neg hi0
      refine ⟨_, rfl, _, rfl, _, _, rfl, rfl, kvs2, some (.int (i : Nat)), some (vn ps[i]), some (.ref c), some (.int (rows[rows.length - (m + 1)][ps[i]] * worthN rows m (dropAt ps i))), by rw [e4]; rfl, kp5.trans kp6, hd6, hN6, by omega⟩
  · rintro σ H' ⟨kvs', x5, x6, x7, x8, rfl, kp, hd1, hN1, hl1⟩
    refine ⟨_, rfl, ?_⟩
    have hl : (ps.map vn).length = m + 1 := by rw [List.length_map, hm]
    rw [hl] at hl1 ⊢
    have e : wAcc F (m + 1) = worthN rows (m + 1) ps := by rw [← hF]; rfl
    rw [e]
    exact q H' kvs' kp hd1 hN1 hl1
theorem has_rest {rows : List (List Int)} {f1 f2 : Addr} {fd1 fd2 : FuncData} (F1 : Fun K "_worth_of_rest" "_worth_of_rest" s__worth_of_rest f1 fd1) (F2 : Fun K "_worth_by_first_row" "_worth_by_first_row" s__worth_by_first_row f2 fd2) (m1 : mg "_worth_of_rest" = some (.ref f1)) (m2 : mg "_worth_by_first_row" = some (.ref f2))
    (k1 : PySem.W.keepIn K (.ref f1) = true) (k2 : PySem.W.keepIn K (.ref f2) = true) (b1 : Binds K fd1 ["rows", "places", "known"] []) (b2 : Binds K fd2 ["rows", "places", "known"] []) (z_len : mg "len" = none) (z_enumerate : mg "enumerate" = none) :
    ∀ m : Nat, HasS P w K mg base (2 * m + 1) "_worth_of_rest" (spRest rows m)
  | 0 => ⟨f1, fd1, _, m1, k1, b1, ok_rest F1 ⟨f2, fd2, _, m2, k2, b2, fn_never⟩ z_len⟩
  | m + 1 => ⟨f1, fd1, _, m1, k1, b1, ok_rest F1 ⟨f2, fd2, _, m2, k2, b2, ok_first F2 (has_rest F1 F2 m1 m2 k1 k2 b1 b2 z_len z_enumerate m) z_len z_enumerate⟩ z_len⟩
theorem ok_worth_of {f : Addr} {fd : FuncData} (F : Fun K "worth_of" "worth_of" s_worth_of f fd) (hr : ∀ (rows : List (List Int)) (m : Nat), HasS P w K mg base (2 * m + 1) "_worth_of_rest" (spRest rows m)) (z_len : mg "len" = none) (z_tuple : mg "tuple" = none) (z_range : mg "range" = none) :
    FnOk P w K mg base CX0 18 f fd ["rows"] (spD g_worth_of [true]) := by
  refine F.ok sc_worth_of (fun vs H Q E h => by obtain ⟨R, ds, d, fr, _, ha, _⟩ := h; obtain ⟨h1, h2⟩ := ha.len; exact h1.trans h2.symm) (fun cdv A outer s H vs Q E hr0 h => ?_)
  obtain ⟨R, ds, d, fr, e, ha, hg, kq⟩ := h
  obtain ⟨l, rows, rfl, hl, hgd, rfl, rfl⟩ : ∃ l rows, ds = [.list l] ∧ rowsOf l = some rows ∧ RowsGood rows ∧ d = .int (worthR rows) ∧ fr = false := by
    unfold g_worth_of at hg
    split at hg
    · rename_i l
      cases h1 : rowsOf l with
      | none => rw [h1] at hg; cases hg
      | some rows =>
        rw [h1] at hg
        simp only [Option.bind_some] at hg
        split at hg
        · rename_i h2
          cases hg
          exact ⟨l, rows, rfl, h1, goodB_iff.mp h2, rfl, rfl⟩
        · cases hg
    · cases hg
  obtain ⟨v, rfl, ht⟩ : ∃ v, vs = [v] ∧ Top R H v (.list l) := by
    cases ha with
    | sh h1 h2 => cases h2; exact ⟨_, rfl, top_of_dp e h1⟩
    | rd h1 h2 => cases h2; exact ⟨_, rfl, h1⟩
  obtain ⟨a, ws, rfl, h1, h2⟩ := top_list ht
  have el := rowsOf_eq hl
  subst el
  have hR := rowsAt_of e h1 h2
  have hlen : ws.length = rows.length := by rw [dpa_len h2]; unfold rowsD; rw [List.length_map]
  have hfew := hgd.few
  refine ⟨_, pss_one (ps_ret (pe_callS ((hr rows rows.length).mono (k := 17) (by omega)) hr0 (by rfl) (pa_cons (pv 0) (pa_cons (pe_tupRg rfl (by rfl) z_tuple (prg_1 (by rfl) z_range (pe_callB call_len_seq (by rfl) z_len PySem.boot_len (pa_cons (pv 0) pa_nil)))) (pa_cons pe_dnewT pa_nil))))), ?_⟩
  refine ⟨.ref a, rfl, .ref a, rfl, a, ws, rfl, .inl (SqL.of h1), _, rfl, .of_le (by omega) (by omega) (by omega) (by omega), fun p hp d hd => ?_⟩
  have hap : a ≠ p := fun z => by
    subst z
    rw [show H a = _ from h1] at hp
    cases hp
  have hdp : p ≠ d := fun z => by
    subst z
    rw [upd_same] at hd
    cases hd
  have e1 : Ex H (upd H p (.tup (rgV 0 (ws.length : Nat)))) := Ex.new hp
  have e2 := Ex.new (o := .dT []) hd
  have e3 := e1.trans e2
  refine ⟨a, p, d, List.range rows.length, [], rfl, hgd, ?_, ?_, List.length_range, Nat.le_refl _, fun x hx => List.mem_range.mp hx, upd_same, fun k v q => ?_, ?_, fun H' kvs' kp _ _ _ => ?_⟩
  · exact rowsAt_of (e.trans e3) (e3 _ _ h1) h2
  · rw [upd_ne hdp, upd_same, hlen, rg_vn]
  · cases q
  · have big : ∀ m, m ≤ 8 → wNew m ≤ 1000000 := by decide
    have := big _ hfew
    rw [List.length_nil]
    omega
  · have hdH : H d = none := by
      cases q : H d with
      | none => rfl
      | some o =>
        rw [e1 _ _ q] at hd
        cases hd
    have eH : Ex H H' := fun b o q => kp b o (fun z => by subst z; rw [hdH] at q; cases q) (e3 b o q)
    exact kq (.int _) R H' (Ex.refl R) eH (e.trans eH) (fun b o q n => by rw [n] at q; cases q) (.int _)
end
end Kx
namespace Kx
open PySem PySem.Spec PyProof.Rows L2 Evl Fw
section
variable {P : Program} {w : World} {K : PySem.W.Frag} {mg : Str → Option Value} {base : Heap}
theorem ok__law_cell_at {gc : GFn} (hG : CellG K gc) {f : Addr} {fd : FuncData} (F : Fun K "_law_cell_at" "_law_cell_at" s__law_cell_at f fd) (z_len : mg "len" = none) : FnOk P w K mg base CX0 1 f fd ["_law_script", "_law_k"] (spD gc [false, true]) := by
  refine F.ok sc__law_cell_at (fun vs H Q E h => by obtain ⟨R, ds, d, fr, _, ha, _⟩ := h; obtain ⟨h1, h2⟩ := ha.len; exact h1.trans h2.symm) (fun cdv A outer s H vs Q E hr h => ?_)
  obtain ⟨R, ds, d, fr, e, hd, hg, kq⟩ := h
  obtain ⟨a, ns, k, rfl, hS, hk, rfl, rfl⟩ := hG R H vs ds d fr e hd hg
  refine ⟨_, pss_cons (ps_if (pt_cmpR op_lt (pv 1) (pe_callB call_len_seq (by rfl) z_len PySem.boot_len (pa_cons (pv 0) pa_nil)) (nomark _))
    (pss_one (ps_ret (pe_ix ix_list (pv 0) (pv 1) (fun _ _ => rfl)))) pss_nil) (pss_one (ps_ret pe_int)), ?_⟩
  refine ⟨.int k, rfl, .ref a, rfl, a, ns.map V.int, rfl, .inl hS, _, _, rfl, rfl, _, rfl, ite2 (fun hc => ?_) (fun hc => ?_)⟩
  · exact ⟨.ref a, rfl, .int k, rfl, a, _, k, _, rfl, rfl, hS, cell_at_ok hk (of_decide_eq_true hc), kq.now e (.int _)⟩
  · have hz := cell_out hk (fun z => hc (decide_eq_true z))
    rw [hz] at kq
    exact kq.now e (.int 0)
theorem ok__law_mixed {gc : GFn} {f : Addr} {fd : FuncData} (F : Fun K "_law_mixed" "_law_mixed" s__law_mixed f fd) (h__law_cell_at : Has P w K mg base 1 "_law_cell_at" gc [false, true]) : FnOk P w K mg base CX0 2 f fd ["_law_script", "_law_k"] (spD (g__law_mixed gc) [false, true]) :=
  fn_pure F sc__law_mixed rfl fun cdv A outer s H E hr => ⟨f__law_mixed gc, (qs_one (qs_ret (qe_bin op_mod gMod_ok (qw_of (qe_bin op_addQ gAdd_ok (qw_of (qe_bin op_mulQ gMul_ok (qw_of (qe_callH h__law_cell_at (hr.mono (by decide)) (by rfl) (qm_s (qe_var 0 (pv 0)) (qm_b (qw_var 1 (pv 1)) qm_nil)))) (qw_of qe_int))) (qw_of (qe_bin op_mulQ gMul_ok (qw_of (qe_bin op_mulQ gMul_ok (qw_of qe_int) (qw_var 1 (pv 1)))) (qw_var 1 (pv 1)))))) (qw_of qe_int)))), fun ds d fr hl hg => by
    unfold g__law_mixed at hg
    rw [if_pos (show ds.length = 2 from hl)] at hg
    exact hg⟩
theorem ok__law_number {gc : GFn} {f : Addr} {fd : FuncData} (F : Fun K "_law_number" "_law_number" s__law_number f fd) (h__law_mixed : Has P w K mg base 2 "_law_mixed" (g__law_mixed gc) [false, true]) : FnOk P w K mg base CX0 3 f fd ["_law_script", "_law_k", "_law_wide"] (spD (g__law_number gc) [false, true, true]) :=
  fn_pure F sc__law_number rfl fun cdv A outer s H E hr => ⟨f__law_number gc, (qs_cons (qs_set (ps_set (i := 3) sc__law_number.nd rfl (by first | exact Or.inl rfl | exact Or.inr rfl) (qe_bin op_addQ gAdd_ok (qw_of (qe_callH h__law_mixed (hr.mono (by decide)) (by rfl) (qm_s (qe_var 0 (pv 0)) (qm_b (qw_of (qe_bin op_addQ gAdd_ok (qw_of qe_int) (qw_var 1 (pv 1)))) qm_nil)))) (qw_of (qe_bin op_fdiv gDiv_ok (qw_of (qe_callH h__law_mixed (hr.mono (by decide)) (by rfl) (qm_s (qe_var 0 (pv 0)) (qm_b (qw_of (qe_bin op_addQ gAdd_ok (qw_of qe_int) (qw_of (qe_bin op_mod gMod_ok (qw_var 1 (pv 1)) (qw_of qe_int))))) qm_nil)))) (qw_of qe_int))))))
      (qs_cons (qs_if (qt_pw (qp_and (qt_val (qe_var 2 (pv 2))) (qp_and1 (qt_cmp (op_eqQ hr.units) gEq_ok (nomark _) (qw_of (qe_bin op_mod gMod_ok (qw_var 3 (pv 3)) (qw_of qe_int))) (qw_of qe_int))))) (qs_one (qs_ret (qe_bin op_sub gSub_ok (qw_of (qe_bin op_mod gMod_ok (qw_of (qe_bin op_addQ gAdd_ok (qw_of (qe_bin op_mulQ gMul_ok (qw_var 3 (pv 3)) (qw_of qe_int))) (qw_of (qe_bin op_fdiv gDiv_ok (qw_var 3 (pv 3)) (qw_of qe_int))))) (qw_of (qe_bin op_pow gPow_ok (qw_of qe_int) (qw_of qe_int))))) (qw_of (qe_bin op_mulQ gMul_ok (qw_of qe_int) (qw_of (qe_bin op_pow gPow_ok (qw_of qe_int) (qw_of qe_int)))))))) qs_nil)
      (qs_one (qs_ret (qe_bin op_sub gSub_ok (qw_of (qe_bin op_mod gMod_ok (qw_of (qe_bin op_fdiv gDiv_ok (qw_var 3 (pv 3)) (qw_of qe_int))) (qw_of qe_int))) (qw_of qe_int)))))), fun ds d fr hl hg => by
    unfold g__law_number at hg
    rw [if_pos (show ds.length = 3 from hl)] at hg
    exact hg⟩
theorem ok__law_rows {gc : GFn} {f : Addr} {fd : FuncData} (F : Fun K "_law_rows" "_law_rows" s__law_rows f fd) (h__law_mixed : Has P w K mg base 2 "_law_mixed" (g__law_mixed gc) [false, true]) (h__law_number : Has P w K mg base 3 "_law_number" (g__law_number gc) [false, true, true]) (z_range : mg "range" = none) (z_max : mg "max" = none) (z_min : mg "min" = none) : FnOk P w K mg base CX0 4 f fd ["_law_script"] (spD (g__law_rows gc) [false]) :=
  fn_pure F sc__law_rows rfl fun cdv A outer s H E hr => ⟨f__law_rows gc, (qs_cons (qs_set (ps_set (i := 1) sc__law_rows.nd rfl (by first | exact Or.inl rfl | exact Or.inr rfl) (qe_callH h__law_mixed (hr.mono (by decide)) (by rfl) (qm_s (qe_var 0 (pv 0)) (qm_b (qw_of qe_int) qm_nil)))))
      (qs_cons (qs_set (ps_set (i := 2) sc__law_rows.nd rfl (by first | exact Or.inl rfl | exact Or.inr rfl) (qe_bin op_mod gMod_ok (qw_var 1 (pv 1)) (qw_of qe_int))))
      (qs_cons (qs_set (ps_set (i := 3) sc__law_rows.nd rfl (by first | exact Or.inl rfl | exact Or.inr rfl) (qe_cmp (op_eqQ hr.units) gEq_ok (nomark _) (qw_of (qe_bin op_mod gMod_ok (qw_of (qe_bin op_fdiv gDiv_ok (qw_var 1 (pv 1)) (qw_of qe_int))) (qw_of qe_int))) (qw_of qe_int))))
      (qs_cons (qs_set (ps_set (i := 4) sc__law_rows.nd rfl (by first | exact Or.inl rfl | exact Or.inr rfl) (qe_lst qa_nil)))
      (qs_cons (qs_for PassesOwn.never rfl (qi_range1 (by rfl) z_range (qa_cons (qe_var 2 (pv 2)) qa_nil)) (qg_name 5 (pg_name (i := 5) sc__law_rows.nd rfl (by first | exact Or.inl rfl | exact Or.inr rfl))) (qs_one (qs_app (ps_expr (pe_bm PySem.F.plainAttrs_list PySem.F.slot_list_append PySem.F.type_list_append mt_append (pv 4) (pa_cons (qe_lc rfl sc__law_rows.nd (qi_b (qi_range1 (by rfl) z_range (qa_cons (qe_var 2 (pv 2)) qa_nil))) (blkOk_by (own := [("_law_k", 9)]) (N := N__law_rows) (sc := defScope s__law_rows) (by decide +kernel)) (fun _ _ _ _ _ => (qg_name 9 (pg_name (i := 9) sc__law_rows.nd rfl (by first | exact Or.inl rfl | exact Or.inr rfl)))) (fun _ _ _ _ _ => qts_nil) (fun _ _ _ _ _ => (qe_callH h__law_number (hr.mono (by decide)) (by rfl) (qm_s (qe_var 0 (pv 0)) (qm_b (qw_of (qe_bin op_addQ gAdd_ok (qw_of (qe_bin op_mulQ gMul_ok (qw_var 2 (pv 2)) (qw_var 5 (pv 5)))) (qw_var 9 (pv 9)))) (qm_b (qw_var 3 (pv 3)) qm_nil))))) (by decide)) pa_nil))))))
      (qs_cons (qs_for PassesOwn.never rfl (qi_range1 (by rfl) z_range (qa_cons (qe_var 2 (pv 2)) qa_nil)) (qg_name 5 (pg_name (i := 5) sc__law_rows.nd rfl (by first | exact Or.inl rfl | exact Or.inr rfl))) (qs_cons (qs_set (ps_set (i := 6) sc__law_rows.nd rfl (by first | exact Or.inl rfl | exact Or.inr rfl) (qe_bin op_sub gSub_ok (qw_of (qe_bin op_mod gMod_ok (qw_of (qe_bin op_fdiv gDiv_ok (qw_of (qe_callH h__law_mixed (hr.mono (by decide)) (by rfl) (qm_s (qe_var 0 (pv 0)) (qm_b (qw_of qe_int) qm_nil)))) (qw_of (qe_bin op_addQ gAdd_ok (qw_of qe_int) (qw_of (qe_bin op_mulQ gMul_ok (qw_of qe_int) (qw_var 5 (pv 5)))))))) (qw_of qe_int))) (qw_of qe_int))))
      (qs_cons (qs_set (ps_set (i := 7) sc__law_rows.nd rfl (by first | exact Or.inl rfl | exact Or.inr rfl) (qe_callB (call_max2 rfl) gMax2_ok (by rfl) z_max (by decide +kernel) (qb_cons (qw_of qe_int) (qb_cons (qw_of (qe_callB (call_min2 rfl) gMin2_ok (by rfl) z_min (by decide +kernel) (qb_cons (qw_var 2 (pv 2)) (qb_cons (qw_var 6 (pv 6)) qb_nil)))) qb_nil)))))
      (qs_one (qs_setIx (ps_asg (qe_bin op_addQ gAdd_ok (qw_of (qe_bin op_mulQ gMul_ok (qw_of (qe_lst (qa_cons qe_int qa_nil))) (qw_var 7 (pv 7)))) (qw_of (qe_sl (qw_of (qe_ix ix_seq gIx_ok (fun _ _ => rfl) (qw_var 4 (pv 4)) (qw_var 5 (pv 5)))) (qo_yes (qw_var 7 (pv 7))) qo_no))) (pg_sub (pv 4) (qw_var 5 (pv 5)) set_list)) (by repeat (first | exact same_var | exact same_c | apply same_bin)))))))
      (qs_cons (qs_if (qt_pw (qp_and (qt_cmp op_gt gGt_ok (nomark _) (qw_var 2 (pv 2)) (qw_of qe_int)) (qp_and1 (qt_cmp (op_eqQ hr.units) gEq_ok (nomark _) (qw_of (qe_bin op_mod gMod_ok (qw_of (qe_bin op_fdiv gDiv_ok (qw_var 1 (pv 1)) (qw_of qe_int))) (qw_of qe_int))) (qw_of qe_int))))) (qs_cons (qs_set (ps_set (i := 8) sc__law_rows.nd rfl (by first | exact Or.inl rfl | exact Or.inr rfl) (qe_ix ix_seq gIx_ok (fun _ _ => rfl) (qw_var 4 (pv 4)) (qw_of (qe_bin op_sub gSub_ok (qw_var 2 (pv 2)) (qw_of qe_int))))))
      (qs_one (qs_setIx (ps_asg (qe_lc rfl sc__law_rows.nd (qi_b (qi_range1 (by rfl) z_range (qa_cons (qe_var 2 (pv 2)) qa_nil))) (blkOk_by (own := [("_law_k", 9)]) (N := N__law_rows) (sc := defScope s__law_rows) (by decide +kernel)) (fun _ _ _ _ _ => (qg_name 9 (pg_name (i := 9) sc__law_rows.nd rfl (by first | exact Or.inl rfl | exact Or.inr rfl)))) (fun _ _ _ _ _ => qts_nil) (fun _ _ _ _ _ => (qe_bin op_addQ gAdd_ok (qw_of (qe_ix ix_seq gIx_ok (fun _ _ => rfl) (qw_of (qe_ix ix_seq gIx_ok (fun _ _ => rfl) (qw_var 4 (pv 4)) (qw_of qe_int))) (qw_var 9 (pv 9)))) (qw_of (qe_ix ix_seq gIx_ok (fun _ _ => rfl) (qw_var 8 (pv 8)) (qw_var 9 (pv 9)))))) (by decide)) (pg_sub (pv 4) (qw_of (qe_bin op_mod gMod_ok (qw_of (qe_bin op_fdiv gDiv_ok (qw_var 1 (pv 1)) (qw_of qe_int))) (qw_var 2 (pv 2)))) set_list)) (by repeat (first | exact same_var | exact same_c | apply same_bin))))) qs_nil)
      (qs_one (qs_ret (qe_mv 4 (pv 4))))))))))), fun ds d fr hl hg => by
    unfold g__law_rows at hg
    rw [if_pos (show ds.length = 1 from hl)] at hg
    exact hg⟩
theorem ok__law_worth {m : Nat} {f : Addr} {fd : FuncData} (F : Fun K "_law_worth" "_law_worth" s__law_worth f fd) (h__law_worth : Has P w K mg base m "_law_worth" (g__law_worth m) [true]) (z_range : mg "range" = none) (z_len : mg "len" = none) : FnOk P w K mg base CX0 (m + 1) f fd ["_law_rows_here"] (spD (g__law_worth (m + 1)) [true]) :=
  fn_pure F sc__law_worth rfl fun cdv A outer s H E hr => ⟨f__law_worth (g__law_worth m), (qs_cons (qs_if (qt_cmp (op_eqQ hr.units) gEq_ok (nomark _) (qw_var 0 (pv 0)) (qw_of (qe_lst qa_nil))) (qs_one (qs_ret qe_int)) qs_nil)
      (qs_cons (qs_set (ps_set (i := 1) sc__law_worth.nd rfl (by first | exact Or.inl rfl | exact Or.inr rfl) qe_int))
      (qs_cons (qs_for PassesOwn.never rfl (qi_range1 (by rfl) z_range (qa_cons (qe_callB call_len_seq gLen_ok (by rfl) z_len (by decide +kernel) (qb_cons (qw_var 0 (pv 0)) qb_nil)) qa_nil)) (qg_name 2 (pg_name (i := 2) sc__law_worth.nd rfl (by first | exact Or.inl rfl | exact Or.inr rfl))) (qs_one (qs_if (qt_cmp (op_neQ hr.units) gNe_ok (nomark _) (qw_of (qe_ix ix_seq gIx_ok (fun _ _ => rfl) (qw_of (qe_ix ix_seq gIx_ok (fun _ _ => rfl) (qw_var 0 (pv 0)) (qw_of qe_int))) (qw_var 2 (pv 2)))) (qw_of qe_int)) (qs_cons (qs_set (ps_set (i := 3) sc__law_worth.nd rfl (by first | exact Or.inl rfl | exact Or.inr rfl) (qe_callH h__law_worth hr (by rfl) (qm_b (qw_of (qe_lc rfl sc__law_worth.nd (qi_listb (qw_of (qe_sl (qw_var 0 (pv 0)) (qo_yes (qw_of qe_int)) qo_no))) (blkOk_by (own := [("_law_row", 4)]) (N := N__law_worth) (sc := defScope s__law_worth) (by decide +kernel)) (fun _ _ _ _ _ => (qg_name 4 (pg_name (i := 4) sc__law_worth.nd rfl (by first | exact Or.inl rfl | exact Or.inr rfl)))) (fun _ _ _ _ _ => qts_nil) (fun _ _ _ _ _ => (qe_bin op_addQ gAdd_ok (qw_of (qe_sl (qw_var 4 (pv 4)) qo_no (qo_yes (qw_var 2 (pv 2))))) (qw_of (qe_sl (qw_var 4 (pv 4)) (qo_yes (qw_of (qe_bin op_addQ gAdd_ok (qw_var 2 (pv 2)) (qw_of qe_int)))) qo_no)))) (by decide))) qm_nil))))
      (qs_one (qs_set (ps_set (i := 1) sc__law_worth.nd rfl (by first | exact Or.inl rfl | exact Or.inr rfl) (qe_bin op_addQ gAdd_ok (qw_var 1 (pv 1)) (qw_of (qe_bin op_mulQ gMul_ok (qw_of (qe_bin op_mulQ gMul_ok (qw_of (qe_ix ix_seq gIx_ok (fun _ _ => rfl) (qw_of (qe_lst (qa_cons qe_int (qa_cons (qe_neg qe_int) qa_nil)))) (qw_of (qe_bin op_mod gMod_ok (qw_var 2 (pv 2)) (qw_of qe_int))))) (qw_of (qe_ix ix_seq gIx_ok (fun _ _ => rfl) (qw_of (qe_ix ix_seq gIx_ok (fun _ _ => rfl) (qw_var 0 (pv 0)) (qw_of qe_int))) (qw_var 2 (pv 2)))))) (qw_var 3 (pv 3))))))))) qs_nil)))
      (qs_one (qs_ret (qe_mv 1 (pv 1))))))), fun ds d fr hl hg => by
    unfold g__law_worth at hg
    rw [if_pos (show ds.length = 1 from hl)] at hg
    exact hg⟩
theorem ok_law {gc : GFn} {f : Addr} {fd : FuncData} (F : Fun K "law" "law" s_law f fd) (h__law_worth : Has P w K mg base 6 "_law_worth" (g__law_worth 6) [true]) (h_worth_of : Has P w K mg base 18 "worth_of" g_worth_of [true]) (h__law_rows : Has P w K mg base 4 "_law_rows" (g__law_rows gc) [false]) (z_isinstance : mg "isinstance" = none) (z_bool : mg "bool" = none) (z_int : mg "int" = none) (z_list : mg "list" = none) : FnOk P w K mg base CX0 19 f fd ["_law_script"] (spD (g_law gc) [false]) :=
  fn_pure F sc_law rfl fun cdv A outer s H E hr => ⟨f_law gc, (qs_cons (qs_set (ps_set (i := 1) sc_law.nd rfl (by first | exact Or.inl rfl | exact Or.inr rfl) (qe_callH h__law_rows (hr.mono (by decide)) (by rfl) (qm_s (qe_var 0 (pv 0)) qm_nil))))
      (qs_cons (qs_setLc (i := 2) rfl sc_law.nd rfl rfl (sw_true rfl rfl rfl (by decide +kernel)) (qi_listb (qw_var 1 (pv 1))) (blkOk_by (own := [("_law_row", 4)]) (N := N_law) (sc := defScope s_law) (by decide +kernel)) (fun _ _ _ _ _ => (qg_name 4 (pg_name (i := 4) sc_law.nd rfl (by first | exact Or.inl rfl | exact Or.inr rfl)))) (fun _ _ _ _ _ => qts_nil) (fun _ _ _ _ _ => (qe_callTy call_list_of gList_ok (by rfl) z_list (by decide +kernel) (qb_cons (qw_var 4 (pv 4)) qb_nil))) (by decide))
      (qs_cons (qs_set (ps_set (i := 3) sc_law.nd rfl (by first | exact Or.inl rfl | exact Or.inr rfl) (qe_callH h_worth_of (hr.mono (by decide)) (by rfl) (qm_b (qw_var 2 (pv 2)) qm_nil))))
      (qs_cons (qs_if (qt_pw (qp_or (qt_not (qt_val (qe_isi (T := "int") (by rfl) z_isinstance (by decide +kernel) (qw_var 3 (pv 3)) (by rfl) z_int (by decide +kernel)))) (qp_or (qt_val (qe_isi (T := "bool") (by rfl) z_isinstance (by decide +kernel) (qw_var 3 (pv 3)) (by rfl) z_bool (by decide +kernel))) (qp_or1 (qt_cmp (op_neQ hr.units) gNe_ok (nomark _) (qw_var 3 (pv 3)) (qw_of (qe_callH h__law_worth (hr.mono (by decide)) (by rfl) (qm_b (qw_var 1 (pv 1)) qm_nil)))))))) (qs_one (qs_ret qe_bl)) qs_nil)
      (qs_one (qs_ret (qe_cmp (op_eqQ hr.units) gEq_ok (nomark _) (qw_var 2 (pv 2)) (qw_var 1 (pv 1))))))))), fun ds d fr hl hg => by
    unfold g_law at hg
    rw [if_pos (show ds.length = 1 from hl)] at hg
    exact hg⟩
theorem has_worth {f : Addr} {fd : FuncData} (F : Fun K "_law_worth" "_law_worth" s__law_worth f fd) (hm : mg "_law_worth" = some (.ref f)) (b : Binds K fd ["_law_rows_here"] []) (z_range : mg "range" = none) (z_len : mg "len" = none) : ∀ m : Nat, Has P w K mg base m "_law_worth" (g__law_worth m) [true]
  | 0 => ⟨f, fd, _, hm, F.kp, b, ⟨fun vs H Q E h => (by obtain ⟨_, _, _, _, _, _, hg, _⟩ := h; cases hg), fun A outer s H args us vs Q E _ _ _ _ h => (by obtain ⟨_, _, _, _, _, _, hg, _⟩ := h; cases hg)⟩⟩
  | m + 1 => ⟨f, fd, _, hm, F.kp, b, ok__law_worth F (has_worth F hm b z_range z_len m) z_range z_len⟩
end
end Kx
namespace Kx
open PySem PySem.Spec PyProof.Rows L2 Evl Fw
local macro_rules | `(tactic| walk_at "side") => `(tactic| first | rfl | decide | omega | assumption | (simp only [List.length_cons, List.length_nil]; omega))
local macro_rules | `(tactic| walk_at "opv") => `(tactic| first
  | ((with_reducible apply y_add); rfl; rfl) | ((with_reducible apply y_sub); rfl; rfl) | ((with_reducible apply y_lt); rfl; rfl) | ((with_reducible apply y_le); rfl; rfl)
  | ((with_reducible apply y_gt); rfl; rfl) | ((with_reducible apply y_ge); rfl; rfl) | ((with_reducible apply y_eq); rfl; rfl) | ((with_reducible apply y_ne); rfl; rfl)
  | ((with_reducible apply y_mod); walk_at "side"; rfl; rfl) | ((with_reducible apply y_div); walk_at "side"; rfl; rfl) | ((with_reducible apply y_mulr); walk_at "side"; rfl; rfl) | ((with_reducible apply y_mull); walk_at "side"; rfl; rfl)
  | with_reducible assumption | assumption | rfl)
local macro_rules | `(tactic| walk_at "ev") => `(tactic| first
  | ((with_reducible apply x_wc); rfl; rfl)
  | ((with_reducible apply x_wt); rfl; rfl; rfl)
  | ((with_reducible apply x_w); rfl; (first | rfl | assumption); rfl)
  | ((with_reducible apply x_s); rfl; (first | rfl | assumption); rfl; rfl)
  | ((with_reducible apply x_o); rfl; rfl; rfl; rfl)
  | ((with_reducible apply x_c); rfl; rfl; rfl)
  | ((with_reducible apply x_an); rfl; rfl)
  | ((with_reducible apply x_on); rfl; rfl)
  | ((with_reducible apply v_of); walk_at "ev")
  | ((with_reducible apply v_bin); walk_at "ev"; walk_at "ev"; walk_at "opv")
  | ((with_reducible apply v_ac); walk_at "ev"; walk_at "ev")
  | ((with_reducible apply v_bc); walk_at "ev"; walk_at "ev")
  | ((with_reducible apply v_call); walk_at "ev"; first | with_reducible assumption | assumption | rfl)
  | ((with_reducible apply v_callB); walk_at "ev"; first | with_reducible assumption | assumption | rfl)
  | ((with_reducible apply x_tup); walk_at "ev"; walk_at "side"; rfl; rfl)
  | ((with_reducible apply x_lst); walk_at "ev"; walk_at "side"; rfl; rfl)
  | ((with_reducible apply v_tst); walk_at "ev")
  | ((with_reducible apply v_neg); walk_at "ev")
  | ((with_reducible apply v_ir1); walk_at "ev"; walk_at "side")
  | ((with_reducible apply x_int); rfl; rfl; rfl) | ((with_reducible apply x_ins); rfl; rfl; rfl) | ((with_reducible apply x_ino); rfl; rfl; rfl)
  | ((with_reducible apply v_il); walk_at "ev")
  | ((with_reducible apply v_ilw); walk_at "ev")
  | ((with_reducible apply v_oy); walk_at "ev")
  | ((with_reducible apply x_m); rfl; rfl; rfl))

/-! the law's own worth -/
def Sq (n : Nat) (rows : List (List Int)) : Prop := rows.length = n ∧ ∀ row ∈ rows, row.length = n ∧ ∀ e ∈ row, -(2 ^ 63) < e ∧ e < 2 ^ 63
def rowI (r : List Int) : PyData := .list (r.map .int)
theorem rowsD_map (rows : List (List Int)) : rowsD rows = rows.map rowI := rfl
theorem Sq.less {n k : Nat} {r0 : List Int} {rest : List (List Int)} (h : Sq (n + 1) (r0 :: rest)) (hk : k < n + 1) : Sq n (rest.map fun r => dropAt r k) := by
  refine ⟨by rw [List.length_map]; have := h.1; simp only [List.length_cons] at this; omega, fun row hr => ?_⟩
  obtain ⟨r, h1, rfl⟩ := List.mem_map.mp hr
  obtain ⟨h2, h3⟩ := h.2 r (List.mem_cons_of_mem _ h1)
  exact ⟨dropAt_len h2 hk, fun e he => h3 e (dropAt_mem he)⟩
theorem lay_rows (rows : List (List Int)) : Lay 2 (.list (rowsD rows)) := lay_intss rows
theorem g_sgn (k : Nat) : gIx (.list [.int 1, .int (-1)]) (.int ((0 + (k : Int)) % 2)) = some (.int (if k % 2 = 0 then 1 else -1), false) := by
  rw [g_ix2 (by omega)]
  by_cases h : k % 2 = 0
  · rw [if_pos (by omega), if_pos h]
  · rw [if_neg (by omega), if_neg h]
theorem lw_succ (m : Nat) (d : PyData) : g__law_worth (m + 1) [d] = outR (f__law_worth (g__law_worth m) (Fw.envOf 5 [true] [d])) := by
  rw [g__law_worth]
  exact if_pos rfl
theorem wAcc_succ (f : Nat → Int) (k : Nat) : wAcc f (k + 1) = if k % 2 = 0 then wAcc f k + f k else wAcc f k - f k := rfl
theorem g_lworth : ∀ (n : Nat) (rows : List (List Int)), Sq n rows → n ≤ 8 → ∀ m, n < m → g__law_worth m [.list (rowsD rows)] = some (.int (lawN n rows), false)
  | _, _, _, _, 0, h => absurd h (Nat.not_lt_zero _)
  | 0, rows, hs, _, m + 1, _ => by
    have : rows = [] := List.length_eq_zero_iff.mp hs.1
    subst this
    have hr : f__law_worth (g__law_worth m) (Fw.envOf 5 [true] [.list (rowsD [])]) = .rt (.int 1) false := by
      show f__law_worth (g__law_worth m) [some (tokD [], false), none, none, none, none] = _
      exact w_seqr (w_ift (v_tst (v_bin (by walk_at "ev") (by walk_at "ev") (gEq_nil (lay_shaped (lay_rows []) (by decide))))) rfl (w_ret (by walk_at "ev")))
    rw [lw_succ, hr]
    rfl
  | n + 1, [], hs, _, m + 1, _ => by cases hs.1
  | n + 1, r0 :: rest, hs, h8, m + 1, hm => by
    have ih := g_lworth n
    have hr0 := hs.2 r0 List.mem_cons_self
    have hrl : rest.length = n := by have := hs.1; simp only [List.length_cons] at this; omega
    generalize hF : (fun k => cellR (r0 :: rest) 0 k * lawN n (rest.map fun r => dropAt r k)) = F
    have hcell : ∀ k, k < n + 1 → gIx (.list (r0.map .int)) (.int (0 + (k : Int))) = some (.int (cellR (r0 :: rest) 0 k), false) := fun k hk => by
      rw [g_ixm (by omega) (by omega)]
      have e : (0 + (k : Int)).toNat = k := by omega
      simp only [e]
      unfold cellR
      rw [List.getD_cons_zero, List.getD_eq_getElem?_getD, List.getElem?_eq_getElem (show k < r0.length by omega), Option.getD_some]
    have hrow : gIx (.list (rowsD (r0 :: rest))) (.int 0) = some (.list (r0.map .int), false) := by
      rw [rowsD_map, g_ixm (enc := rowI) (by omega) (by simp)]
      rfl
    have hbound : ∀ k, k < n + 1 → -(2 ^ 63) < cellR (r0 :: rest) 0 k ∧ cellR (r0 :: rest) 0 k < 2 ^ 63 := fun k hk => by
      unfold cellR
      rw [List.getD_cons_zero, List.getD_eq_getElem?_getD, List.getElem?_eq_getElem (show k < r0.length by omega), Option.getD_some]
      exact hr0.2 _ (List.getElem_mem _)
    have hloop := loop_rg (g := gNm 2) (fb := f__law_worth_b1 (g__law_worth m)) (lo := 0) (n := n + 1) (env := [some (tokD (rowsD (r0 :: rest)), false), some (.int 0, false), none, none, none])
      (fun k env => ∃ a b, env = [some (tokD (rowsD (r0 :: rest)), false), some (.int (wAcc F k), false), a, b, none]) ⟨none, none, rfl⟩ (fun k hk env hp => by
        obtain ⟨a, b, rfl⟩ := hp
        have hc := hcell k hk
        have hb := hbound k hk
        have hFk : F k = cellR (r0 :: rest) 0 k * lawN n (rest.map fun r => dropAt r k) := by rw [← hF]
        generalize cellR (r0 :: rest) 0 k = c at hc hb hFk
        have hcond : tstE (eBin gNe (wOf (eBin gIx (wOf (eBin gIx (wVar 0) (wOf (eC (.int 0))))) (wVar 2))) (wOf (eC (.int 0)))) [some (tokD (rowsD (r0 :: rest)), false), some (.int (wAcc F k), false), some (.int (0 + (k : Int)), false), b, none] = some (!decide (c = 0), [some (tokD (rowsD (r0 :: rest)), false), some (.int (wAcc F k), false), some (.int (0 + (k : Int)), false), b, none]) :=
          v_tst (v_bin (v_of (v_bin (v_of (v_bin (by walk_at "ev") (by walk_at "ev") hrow)) (by walk_at "ev") hc)) (by walk_at "ev") g_ne)
        by_cases h0 : c = 0
        · refine ⟨_, _, rfl, .inl (w_iff hcond (by rw [h0]; rfl) rfl), some (.int (0 + (k : Int)), false), b, ?_⟩
          have : wAcc F (k + 1) = wAcc F k := by
            rw [wAcc_succ, hFk, h0, Int.zero_mul, Int.add_zero, Int.sub_zero, ite_self]
          rw [this]
        · have hlc := lc_map (g := gNm 4) (c := gTst) (f := eBin gAdd (wOf (eSl (wVar 4) oNo (oYes (wVar 2)))) (wOf (eSl (wVar 4) (oYes (wOf (eBin gAdd (wVar 2) (wOf (eC (.int 1)))))) oNo))) (vs := [4]) (e0 := [some (tokD (rowsD (r0 :: rest)), false), some (.int (wAcc F k), false), some (.int (0 + (k : Int)), false), b, none])
            rowI (fun r => rowI (dropAt r k)) (fun _ => true) rest fun r hr => by
              refine ⟨_, rfl, rfl, rfl, fun _ => ⟨true, ?_⟩⟩
              have hrn := (hs.2 r (List.mem_cons_of_mem _ hr)).1
              have e1 : cutA (r.map PyData.int) none (some (0 + (k : Int))) ++ cutA (r.map PyData.int) (some (0 + (k : Int) + 1)) none = (dropAt r k).map .int := by
                rw [cutA_to _ (by omega), cutA_from _ (by omega), show (0 + (k : Int)).toNat = k by omega, show (0 + (k : Int) + 1).toNat = k + 1 by omega]
                exact dropAt_map _ r k
              have e2 : rowI (dropAt r k) = .list (cutA (r.map PyData.int) none (some (0 + (k : Int))) ++ cutA (r.map PyData.int) (some (0 + (k : Int) + 1)) none) := by rw [e1]; rfl
              rw [e2]
              refine v_bin (v_of (v_slL (by walk_at "ev") (by walk_at "ev") (by walk_at "ev"))) (v_of (v_slL (by walk_at "ev") (by walk_at "ev") (by walk_at "ev"))) (g_addL ?_)
              rw [← List.length_append, e1, List.length_map, dropAt_len hrn hk]
              omega
          rw [List.filter_eq_self.mpr fun _ _ => rfl] at hlc
          have hw := ih (rest.map fun r => dropAt r k) (hs.less hk) (by omega) m (by omega)
          have hcut : cutA (rowsD (r0 :: rest)) (some 1) none = rest.map rowI := by
            rw [cutA_from _ (by omega)]
            rfl
          have hval : rest.map (fun r => rowI (dropAt r k)) = rowsD (rest.map fun r => dropAt r k) := by
            unfold rowsD
            rw [List.map_map]
            rfl
          rw [hval] at hlc
          generalize lawN n (rest.map fun r => dropAt r k) = W at hw hFk
          refine ⟨_, _, rfl, .inl (w_ift hcond (by rw [decide_eq_false h0]; rfl) (w_seq (w_set (v_call (v_bc (v_of (v_lc (v_ilw (v_of (v_slL (by walk_at "ev") (by walk_at "ev") (by walk_at "ev")))) (by rw [hcut, List.length_map]; omega) (by rw [hcut]; exact hlc))) v_an) hw)) (w_set' (v_bin (by walk_at "ev") (v_of (v_bin (v_of (v_bin (v_of (v_bin (v_of (by walk_at "ev")) (by walk_at "ev") (g_sgn k))) (v_of (v_bin (v_of (v_bin (by walk_at "ev") (by walk_at "ev") hrow)) (by walk_at "ev") hc)) (g_mull (by split <;> omega)))) (by walk_at "ev") (g_mull (by split <;> omega)))) g_add) rfl))), some (.int (0 + (k : Int)), false), some (.int W, false), ?_⟩
          have hacc : wAcc F k + (if k % 2 = 0 then 1 else -1) * c * W = wAcc F (k + 1) := by
            rw [wAcc_succ, hFk]
            split
            · rw [Int.one_mul]
            · rw [Int.neg_one_mul, Int.neg_mul]
              rfl
          rw [← hacc]
          rfl)
    obtain ⟨e, he, a, b, rfl⟩ := hloop
    have hr : f__law_worth (g__law_worth (m)) (Fw.envOf 5 [true] [.list (rowsD (r0 :: rest))]) = .rt (.int (lawN (n + 1) (r0 :: rest))) false := by
      show f__law_worth (g__law_worth m) [some (tokD (rowsD (r0 :: rest)), false), none, none, none, none] = _
      have hlen : (rowsD (r0 :: rest)).length = n + 1 := by rw [rowsD_map, List.length_map]; exact hs.1
      have hlaw : wAcc F (n + 1) = lawN (n + 1) (r0 :: rest) := by rw [← hF]; rfl
      rw [← hlaw]
      refine w_seq (w_iff (v_tst (v_bin (by walk_at "ev") (by walk_at "ev") (gEq_nil (lay_shaped (lay_rows (r0 :: rest)) (by decide))))) rfl rfl) ?_
      refine w_seq (w_set (by walk_at "ev")) ?_
      refine w_seq (w_for (v_ir1 (v_ac (v_callB (by walk_at "ev") (show gLen [.list (rowsD (r0 :: rest))] = some (.int ((n + 1 : Nat) : Int), false) by rw [← hlen]; rfl)) v_an) (by omega)) (by rw [Int.toNat_natCast]; exact he)) ?_
      exact w_ret (by walk_at "ev")
    rw [lw_succ, hr]
    rfl
end Kx
namespace Kx
open PySem PySem.Spec PyProof.Rows L2 Evl Fw
local macro_rules | `(tactic| walk_at "side") => `(tactic| first | rfl | decide | omega | assumption | (simp only [List.length_cons, List.length_nil]; omega))
local macro_rules | `(tactic| walk_at "opv") => `(tactic| first
  | ((with_reducible apply y_add); rfl; rfl) | ((with_reducible apply y_sub); rfl; rfl) | ((with_reducible apply y_lt); rfl; rfl) | ((with_reducible apply y_le); rfl; rfl)
  | ((with_reducible apply y_gt); rfl; rfl) | ((with_reducible apply y_ge); rfl; rfl) | ((with_reducible apply y_eq); rfl; rfl) | ((with_reducible apply y_ne); rfl; rfl)
  | ((with_reducible apply y_mod); walk_at "side"; rfl; rfl) | ((with_reducible apply y_div); walk_at "side"; rfl; rfl) | ((with_reducible apply y_mulr); walk_at "side"; rfl; rfl) | ((with_reducible apply y_mull); walk_at "side"; rfl; rfl)
  | with_reducible assumption | assumption | rfl)
local macro_rules | `(tactic| walk_at "ev") => `(tactic| first
  | ((with_reducible apply x_wc); rfl; rfl)
  | ((with_reducible apply x_wt); rfl; rfl; rfl)
  | ((with_reducible apply x_w); rfl; (first | rfl | assumption); rfl)
  | ((with_reducible apply x_s); rfl; (first | rfl | assumption); rfl; rfl)
  | ((with_reducible apply x_o); rfl; rfl; rfl; rfl)
  | ((with_reducible apply x_c); rfl; rfl; rfl)
  | ((with_reducible apply x_an); rfl; rfl)
  | ((with_reducible apply x_on); rfl; rfl)
  | ((with_reducible apply v_of); walk_at "ev")
  | ((with_reducible apply v_bin); walk_at "ev"; walk_at "ev"; walk_at "opv")
  | ((with_reducible apply v_ac); walk_at "ev"; walk_at "ev")
  | ((with_reducible apply v_bc); walk_at "ev"; walk_at "ev")
  | ((with_reducible apply v_call); walk_at "ev"; first | with_reducible assumption | assumption | rfl)
  | ((with_reducible apply v_callB); walk_at "ev"; first | with_reducible assumption | assumption | rfl)
  | ((with_reducible apply x_tup); walk_at "ev"; walk_at "side"; rfl; rfl)
  | ((with_reducible apply x_lst); walk_at "ev"; walk_at "side"; rfl; rfl)
  | ((with_reducible apply v_tst); walk_at "ev")
  | ((with_reducible apply v_neg); walk_at "ev")
  | ((with_reducible apply v_ir1); walk_at "ev"; walk_at "side")
  | ((with_reducible apply x_int); rfl; rfl; rfl) | ((with_reducible apply x_ins); rfl; rfl; rfl) | ((with_reducible apply x_ino); rfl; rfl; rfl)
  | ((with_reducible apply v_il); walk_at "ev")
  | ((with_reducible apply v_ilw); walk_at "ev")
  | ((with_reducible apply v_oy); walk_at "ev")
  | ((with_reducible apply x_m); rfl; rfl; rfl))

def mixed (ns : List Int) (k : Int) : Int := (ns.getD k.toNat 0 * 48271 + 7919 * k * k) % 1000003
theorem mixed_lo (ns : List Int) (k : Int) : 0 ≤ mixed ns k ∧ mixed ns k < 1000003 := by
  unfold mixed
  omega
theorem g_mixed {ns : List Int} {sd : PyData} {gc : GFn} (hc : CellOk ns sd gc) {k : Int} (h0 : 0 ≤ k) (h1 : k < 1000) : g__law_mixed gc [sd, .int k] = some (.int (mixed ns k), false) := by
  have e := hc.2 k h0
  have hsd := hc.1
  have h2 : -(2 ^ 64) < k ∧ k < 2 ^ 64 := by omega
  have hr : f__law_mixed gc (Fw.envOf 2 [false, true] [sd, .int k]) = .rt (.int (mixed ns k)) false := by
    show f__law_mixed gc [some (sd, false), some (.int k, false)] = _
    apply w_ret
    walk_at "ev"
  show (if _ then outR _ else _) = _
  rw [hr]
  rfl
def RowOk (n : Nat) (B : Int) (r : List Int) : Prop := r.length = n ∧ ∀ e ∈ r, -B < e ∧ e < B
def AllOk (n : Nat) (B : Int) (rows : List (List Int)) : Prop := ∀ r ∈ rows, RowOk n B r
def numb (ns : List Int) (w : Bool) (k : Int) : Int :=
  if w = true ∧ (mixed ns (2 + k) + mixed ns (2 + k % 7) / 3) % 3 = 0 then ((mixed ns (2 + k) + mixed ns (2 + k % 7) / 3) * 1000003 + (mixed ns (2 + k) + mixed ns (2 + k % 7) / 3) / 7) % 1000000000000 - 500000000000
  else (mixed ns (2 + k) + mixed ns (2 + k % 7) / 3) / 3 % 7 - 3
theorem numb_lo (ns : List Int) (w : Bool) (k : Int) : -1000000000000 < numb ns w k ∧ numb ns w k < 1000000000000 := by
  unfold numb
  split <;> omega
section
variable {ns : List Int} {sd : PyData} {gc : GFn} (hc : CellOk ns sd gc)
include hc
theorem g_numb {k : Int} (w : Bool) (h0 : 0 ≤ k) (h1 : k < 100) : g__law_number gc [sd, .int k, .bool w] = some (.int (numb ns w k), false) := by
  have hsd := hc.1
  have m0 := g_mixed hc (k := 2 + k) (by omega) (by omega)
  have m1 := g_mixed hc (k := 2 + k % 7) (by omega) (by omega)
  have b0 := mixed_lo ns (2 + k)
  have b1 := mixed_lo ns (2 + k % 7)
  have hr : f__law_number gc (Fw.envOf 4 [false, true, true] [sd, .int k, .bool w]) = .rt (.int (numb ns w k)) false := by
    show f__law_number gc [some (sd, false), some (.int k, false), some (.bool w, false), none] = _
    unfold numb
    generalize mixed ns (2 + k) = z0 at m0 b0
    generalize mixed ns (2 + k % 7) = z1 at m1 b1
    refine w_seq (w_set (v_bin (v_of (v_call (by walk_at "ev") m0)) (v_of (v_bin (v_of (v_call (by walk_at "ev") m1)) (by walk_at "ev") (g_div (by omega)))) g_add)) ?_
    generalize hcc : z0 + z1 / 3 = c
    have bc : -(2 ^ 64) < c ∧ c < 2 ^ 64 := by omega
    have hcond : cAnd (tstE (eVar 2)) (tstE (eBin gEq (wOf (eBin gMod (wVar 3) (wOf (eC (.int 3))))) (wOf (eC (.int 0))))) [some (sd, false), some (.int k, false), some (.bool w, false), some (.int c, false)] = some (w && decide (c % 3 = 0), [some (sd, false), some (.int k, false), some (.bool w, false), some (.int c, false)]) :=
      v_ca (v_tst (by walk_at "ev")) fun _ => by walk_at "ev"
    by_cases h : w = true ∧ c % 3 = 0
    · rw [if_pos h]
      have p12 : gPow (.int 10) (.int 12) = some (.int 1000000000000, false) := (g_pow (by decide)).trans (congrArg (fun z => some (PyData.int z, false)) (show (10 : Int) ^ (12 : Int).toNat = 1000000000000 by decide +kernel))
      have p11 : gPow (.int 10) (.int 11) = some (.int 100000000000, false) := (g_pow (by decide)).trans (congrArg (fun z => some (PyData.int z, false)) (show (10 : Int) ^ (11 : Int).toNat = 100000000000 by decide +kernel))
      have p5 : gMul (.int 5) (.int 100000000000) = some (.int 500000000000, false) := (g_mull (by decide)).trans (congrArg (fun z => some (PyData.int z, false)) (show (5 : Int) * 100000000000 = 500000000000 by decide +kernel))
      exact w_seqr (w_ift hcond (by rw [h.1, decide_eq_true h.2]; rfl) (w_ret (v_bin (v_of (v_bin (v_of (v_bin (v_of (by walk_at "ev")) (v_of (by walk_at "ev")) g_add)) (v_of (v_bin (by walk_at "ev") (by walk_at "ev") p12)) (g_mod (by decide)))) (v_of (v_bin (by walk_at "ev") (v_of (v_bin (by walk_at "ev") (by walk_at "ev") p11)) p5)) g_sub)))
    · rw [if_neg h]
      refine w_seq (w_iff hcond ?_ rfl) (w_ret (by walk_at "ev"))
      cases w with
      | false => rfl
      | true =>
        rw [decide_eq_false (fun z => h ⟨rfl, z⟩)]
        rfl
  show (if _ then outR _ else _) = _
  rw [hr]
  rfl
end
end Kx
namespace Kx
open PySem PySem.Spec PyProof.Rows L2 Evl Fw
local macro_rules | `(tactic| walk_at "side") => `(tactic| first | rfl | decide | omega | assumption | (simp only [List.length_cons, List.length_nil]; omega))
local macro_rules | `(tactic| walk_at "opv") => `(tactic| first
  | ((with_reducible apply y_add); rfl; rfl) | ((with_reducible apply y_sub); rfl; rfl) | ((with_reducible apply y_lt); rfl; rfl) | ((with_reducible apply y_le); rfl; rfl)
  | ((with_reducible apply y_gt); rfl; rfl) | ((with_reducible apply y_ge); rfl; rfl) | ((with_reducible apply y_eq); rfl; rfl) | ((with_reducible apply y_ne); rfl; rfl)
  | ((with_reducible apply y_mod); walk_at "side"; rfl; rfl) | ((with_reducible apply y_div); walk_at "side"; rfl; rfl) | ((with_reducible apply y_mulr); walk_at "side"; rfl; rfl) | ((with_reducible apply y_mull); walk_at "side"; rfl; rfl)
  | with_reducible assumption | assumption | rfl)
local macro_rules | `(tactic| walk_at "ev") => `(tactic| first
  | ((with_reducible apply x_wc); rfl; rfl)
  | ((with_reducible apply x_wt); rfl; rfl; rfl)
  | ((with_reducible apply x_w); rfl; (first | rfl | assumption); rfl)
  | ((with_reducible apply x_s); rfl; (first | rfl | assumption); rfl; rfl)
  | ((with_reducible apply x_o); rfl; rfl; rfl; rfl)
  | ((with_reducible apply x_c); rfl; rfl; rfl)
  | ((with_reducible apply x_an); rfl; rfl)
  | ((with_reducible apply x_on); rfl; rfl)
  | ((with_reducible apply v_of); walk_at "ev")
  | ((with_reducible apply v_bin); walk_at "ev"; walk_at "ev"; walk_at "opv")
  | ((with_reducible apply v_ac); walk_at "ev"; walk_at "ev")
  | ((with_reducible apply v_bc); walk_at "ev"; walk_at "ev")
  | ((with_reducible apply v_call); walk_at "ev"; first | with_reducible assumption | assumption | rfl)
  | ((with_reducible apply v_callB); walk_at "ev"; first | with_reducible assumption | assumption | rfl)
  | ((with_reducible apply x_tup); walk_at "ev"; walk_at "side"; rfl; rfl)
  | ((with_reducible apply x_lst); walk_at "ev"; walk_at "side"; rfl; rfl)
  | ((with_reducible apply v_tst); walk_at "ev")
  | ((with_reducible apply v_neg); walk_at "ev")
  | ((with_reducible apply v_ir1); walk_at "ev"; walk_at "side")
  | ((with_reducible apply x_int); rfl; rfl; rfl) | ((with_reducible apply x_ins); rfl; rfl; rfl) | ((with_reducible apply x_ino); rfl; rfl; rfl)
  | ((with_reducible apply v_il); walk_at "ev")
  | ((with_reducible apply v_ilw); walk_at "ev")
  | ((with_reducible apply v_oy); walk_at "ev")
  | ((with_reducible apply x_m); rfl; rfl; rfl))

theorem rowsD_len (rows : List (List Int)) : (rowsD rows).length = rows.length := List.length_map _
theorem AllOk.mono {n : Nat} {B C : Int} {rows : List (List Int)} (h : AllOk n B rows) (l : B ≤ C) : AllOk n C rows := fun r hr => ⟨(h r hr).1, fun e he => by have := (h r hr).2 e he; omega⟩
theorem AllOk.app {n : Nat} {B : Int} {rows : List (List Int)} {r : List Int} (h : AllOk n B rows) (hr : RowOk n B r) : AllOk n B (rows ++ [r]) := fun x hx => (List.mem_append.mp hx).elim (h x) fun q => by
  rw [List.mem_singleton.mp q]
  exact hr
theorem AllOk.set {n : Nat} {B : Int} {rows : List (List Int)} {r : List Int} {j : Nat} (h : AllOk n B rows) (hr : RowOk n B r) : AllOk n B (rows.set j r) := fun x hx => by
  rcases List.mem_or_eq_of_mem_set hx with q | q
  · exact h x q
  · rw [q]
    exact hr
theorem rowsD_app (rows : List (List Int)) (r : List Int) : rowsD (rows ++ [r]) = rowsD rows ++ [rowI r] := by
  unfold rowsD
  rw [List.map_append]
  rfl
theorem rowsD_set (rows : List (List Int)) (r : List Int) (j : Nat) : rowsD (rows.set j r) = (rowsD rows).set j (rowI r) := List.map_set
theorem g_rowAt {rows : List (List Int)} {k : Nat} (hk : k < rows.length) : gIx (.list (rowsD rows)) (.int (k : Int)) = some (.list (rows[k].map .int), false) := by
  rw [rowsD_map, g_ixm (enc := rowI) (by omega) (by rw [Int.toNat_natCast]; exact hk)]
  rfl
theorem g_cellAt {r : List Int} {k : Nat} (hk : k < r.length) : gIx (.list (r.map .int)) (.int (k : Int)) = some (.int r[k], false) := by
  rw [g_ixm (by omega) (by rw [Int.toNat_natCast]; exact hk)]
  rfl
theorem ixN_nat {n k : Nat} (h : k < n) : ixN n (k : Int) = some k := by
  unfold ixN
  rw [if_pos (by omega), if_pos (by omega), Int.toNat_natCast]
/-- how many noughts are put ahead -/
def ahead (n : Nat) (z1 : Int) (k : Nat) : Int := if (if z1 / (1 + 5 * (0 + (k : Int))) % 5 - 2 < (n : Int) then z1 / (1 + 5 * (0 + (k : Int))) % 5 - 2 else (n : Int)) > 0 then (if z1 / (1 + 5 * (0 + (k : Int))) % 5 - 2 < (n : Int) then z1 / (1 + 5 * (0 + (k : Int))) % 5 - 2 else (n : Int)) else 0
theorem ahead_lo (n : Nat) (z1 : Int) (k : Nat) : 0 ≤ ahead n z1 k ∧ ahead n z1 k ≤ n := by
  unfold ahead
  split <;> split <;> omega
section
variable {ns : List Int} {sd : PyData} {gc : GFn} (hc : CellOk ns sd gc)
include hc
theorem rows_b2 {n k : Nat} {z0 : Int} {w : Bool} {rows : List (List Int)} {a : Option (PyData × Bool)} (hn : n ≤ 5) (hk : k < n) (hl : rows.length ≤ 10) :
    f__law_rows_b2 gc [some (sd, false), some (.int z0, false), some (.int (n : Int), false), some (.bool w, false), some (.list (rowsD rows), true), some (.int (0 + (k : Int)), false), none, none, none, none] =
      .nx [some (sd, false), some (.int z0, false), some (.int (n : Int), false), some (.bool w, false), some (.list (rowsD (rows ++ [(List.range n).map fun i => numb ns w ((n * k + i : Nat) : Int)])), true), some (.int (0 + (k : Int)), false), none, none, none, none] := by
  have hsd := hc.1
  have hnk : n * k ≤ 5 * 5 := Nat.mul_le_mul hn (by omega)
  have hcast : (n : Int) * (0 + (k : Int)) = ((n * k : Nat) : Int) := by rw [Int.zero_add]; exact (Int.natCast_mul n k).symm
  have hlc := lc_map (g := gNm 9) (c := gTst) (f := eCall (g__law_number gc) (aCons (eVar 0) (bCons (wOf (eBin gAdd (wOf (eBin gMul (wVar 2) (wVar 5))) (wVar 9))) (bCons (wVar 3) aNil)))) (vs := [9])
    (e0 := [some (sd, false), some (.int z0, false), some (.int (n : Int), false), some (.bool w, false), some (.list (rowsD rows), true), some (.int (0 + (k : Int)), false), none, none, none, none])
    (fun i : Nat => PyData.int (0 + (i : Int))) (fun i => .int (numb ns w ((n * k + i : Nat) : Int))) (fun _ => true) (List.range n) fun i hi => by
      have hi' : i < n := List.mem_range.mp hi
      refine ⟨_, rfl, rfl, rfl, fun _ => ⟨false, ?_⟩⟩
      have hg := g_numb hc (k := ((n * k + i : Nat) : Int)) w (by omega) (by omega)
      refine v_call (v_ac (by walk_at "ev") (v_bc (v_of (v_bin (v_of (v_bin (by walk_at "ev") (by walk_at "ev") (g_mull (by omega)))) (by walk_at "ev") g_add)) (by walk_at "ev"))) ?_
      rw [hcast, Int.zero_add, show ((n * k : Nat) : Int) + (i : Int) = ((n * k + i : Nat) : Int) from (Int.natCast_add _ _).symm]
      exact hg
  rw [List.filter_eq_self.mpr fun _ _ => rfl] at hlc
  have hval : (List.range n).map (fun i => PyData.int (numb ns w ((n * k + i : Nat) : Int))) = ((List.range n).map fun i => numb ns w ((n * k + i : Nat) : Int)).map .int := by
    rw [List.map_map]
    rfl
  rw [hval] at hlc
  rw [rowsD_app]
  exact w_app' rfl (v_lcR (by walk_at "ev") (by omega) hlc) rfl (by rw [rowsD_len]; omega) (by rw [rowsD_len]; omega) rfl
theorem rows_b1 {n k : Nat} {z0 : Int} {w : Bool} {rows : List (List Int)} {a b c : Option (PyData × Bool)} (hn : n ≤ 5) (hk : k < n) (hl : rows.length = n) (hr : (rows[k]'(by omega)).length = n) :
    f__law_rows_b1 gc [some (sd, false), some (.int z0, false), some (.int (n : Int), false), some (.bool w, false), some (.list (rowsD rows), true), some (.int (0 + (k : Int)), false), b, c, none, none] =
      .nx [some (sd, false), some (.int z0, false), some (.int (n : Int), false), some (.bool w, false), some (.list (rowsD (rows.set k (List.replicate (ahead n (mixed ns 1) k).toNat 0 ++ (rows[k]'(by omega)).drop (ahead n (mixed ns 1) k).toNat))), true), some (.int (0 + (k : Int)), false),
        some (.int (mixed ns 1 / (1 + 5 * (0 + (k : Int))) % 5 - 2), false), some (.int (ahead n (mixed ns 1) k), false), none, none] := by
  have hsd := hc.1
  have m1 := g_mixed hc (k := 1) (by omega) (by omega)
  generalize mixed ns 1 = z1 at m1
  have ha := ahead_lo n z1 k
  refine w_seq (w_set (v_bin (v_of (v_bin (v_of (v_bin (v_of (v_call (by walk_at "ev") m1)) (v_of (v_bin (by walk_at "ev") (v_of (v_bin (by walk_at "ev") (by walk_at "ev") (g_mull (by decide)))) g_add)) (g_div (by omega)))) (by walk_at "ev") (g_mod (by omega)))) (by walk_at "ev") g_sub)) ?_
  refine w_seq (w_set (v_callB (v_bc (by walk_at "ev") (v_bc (v_of (v_callB (by walk_at "ev") rfl)) (by walk_at "ev"))) rfl)) ?_
  show sSetIx 4 _ _ [some (sd, false), some (.int z0, false), some (.int (n : Int), false), some (.bool w, false), some (.list (rowsD rows), true), some (.int (0 + (k : Int)), false), some (.int (z1 / (1 + 5 * (0 + (k : Int))) % 5 - 2), false), some (.int (ahead n z1 k), false), none, none] = _
  generalize ahead n z1 k = m at ha
  have hk' : k < rows.length := by omega
  have e1 : (List.replicate m.toNat [PyData.int 0]).flatten ++ cutA (rows[k].map PyData.int) (some m) none = (List.replicate m.toNat 0 ++ rows[k].drop m.toNat).map .int := by
    rw [cutA_from _ ha.1, List.map_append, List.map_replicate, List.map_drop, List.flatten_replicate_singleton]
  have el : ((List.replicate m.toNat [PyData.int 0]).flatten).length + (cutA (rows[k].map PyData.int) (some m) none).length ≤ 1000 := by
    rw [← List.length_append, e1, List.length_map, List.length_append, List.length_replicate, List.length_drop]
    omega
  have hix : gIx (.list (rowsD rows)) (.int (0 + (k : Int))) = some (.list (rows[k].map .int), false) := by rw [Int.zero_add]; exact g_rowAt hk'
  refine w_setIx' (v_bin (v_of (v_bin (v_of (by walk_at "ev")) (by walk_at "ev") (g_rep ⟨by omega, by omega, by simp only [List.length_cons, List.length_nil]; omega⟩))) (v_of (v_slL (v_of (v_bin (by walk_at "ev") (by walk_at "ev") hix)) (by walk_at "ev") (by walk_at "ev"))) (g_addL el)) (by walk_at "ev") rfl (by rw [rowsD_len, Int.zero_add]; exact ixN_nat hk') ?_
  rw [e1, rowsD_set]
  rfl
end
end Kx
namespace Kx
open PySem PySem.Spec PyProof.Rows L2 Evl Fw
local macro_rules | `(tactic| walk_at "side") => `(tactic| first | rfl | decide | omega | assumption | (simp only [List.length_cons, List.length_nil]; omega))
local macro_rules | `(tactic| walk_at "opv") => `(tactic| first
  | ((with_reducible apply y_add); rfl; rfl) | ((with_reducible apply y_sub); rfl; rfl) | ((with_reducible apply y_lt); rfl; rfl) | ((with_reducible apply y_le); rfl; rfl)
  | ((with_reducible apply y_gt); rfl; rfl) | ((with_reducible apply y_ge); rfl; rfl) | ((with_reducible apply y_eq); rfl; rfl) | ((with_reducible apply y_ne); rfl; rfl)
  | ((with_reducible apply y_mod); walk_at "side"; rfl; rfl) | ((with_reducible apply y_div); walk_at "side"; rfl; rfl) | ((with_reducible apply y_mulr); walk_at "side"; rfl; rfl) | ((with_reducible apply y_mull); walk_at "side"; rfl; rfl)
  | with_reducible assumption | assumption | rfl)
local macro_rules | `(tactic| walk_at "ev") => `(tactic| first
  | ((with_reducible apply x_wc); rfl; rfl)
  | ((with_reducible apply x_wt); rfl; rfl; rfl)
  | ((with_reducible apply x_w); rfl; (first | rfl | assumption); rfl)
  | ((with_reducible apply x_s); rfl; (first | rfl | assumption); rfl; rfl)
  | ((with_reducible apply x_o); rfl; rfl; rfl; rfl)
  | ((with_reducible apply x_c); rfl; rfl; rfl)
  | ((with_reducible apply x_an); rfl; rfl)
  | ((with_reducible apply x_on); rfl; rfl)
  | ((with_reducible apply v_of); walk_at "ev")
  | ((with_reducible apply v_bin); walk_at "ev"; walk_at "ev"; walk_at "opv")
  | ((with_reducible apply v_ac); walk_at "ev"; walk_at "ev")
  | ((with_reducible apply v_bc); walk_at "ev"; walk_at "ev")
  | ((with_reducible apply v_call); walk_at "ev"; first | with_reducible assumption | assumption | rfl)
  | ((with_reducible apply v_callB); walk_at "ev"; first | with_reducible assumption | assumption | rfl)
  | ((with_reducible apply x_tup); walk_at "ev"; walk_at "side"; rfl; rfl)
  | ((with_reducible apply x_lst); walk_at "ev"; walk_at "side"; rfl; rfl)
  | ((with_reducible apply v_tst); walk_at "ev")
  | ((with_reducible apply v_neg); walk_at "ev")
  | ((with_reducible apply v_ir1); walk_at "ev"; walk_at "side")
  | ((with_reducible apply x_int); rfl; rfl; rfl) | ((with_reducible apply x_ins); rfl; rfl; rfl) | ((with_reducible apply x_ino); rfl; rfl; rfl)
  | ((with_reducible apply v_il); walk_at "ev")
  | ((with_reducible apply v_ilw); walk_at "ev")
  | ((with_reducible apply v_oy); walk_at "ev")
  | ((with_reducible apply x_m); rfl; rfl; rfl))

section
variable {ns : List Int} {sd : PyData} {gc : GFn} (hc : CellOk ns sd gc)
include hc
theorem rows_last {n : Nat} {z0 : Int} {w : Bool} {rows : List (List Int)} {a b c : Option (PyData × Bool)} (hn : n ≤ 5) (hl : rows.length = n) (hr : AllOk n 1000000000000 rows) :
    ∃ R, AllOk n 2000000000000 R ∧ R.length = n ∧ ∃ x, (seqS (sIf (cAnd (tstE (eBin gGt (wVar 2) (wOf (eC (.int 2))))) (tstE (eBin gEq (wOf (eBin gMod (wOf (eBin gDiv (wVar 1) (wOf (eC (.int 18))))) (wOf (eC (.int 4))))) (wOf (eC (.int 1)))))) (seqS (sSet 8 (eBin gIx (wVar 4) (wOf (eBin gSub (wVar 2) (wOf (eC (.int 1)))))))
    (sSetIx 4 (eLc (iR1 (aCons (eVar 2) aNil)) (gNm 9) gTst (eBin gAdd (wOf (eBin gIx (wOf (eBin gIx (wVar 4) (wOf (eC (.int 0))))) (wVar 9))) (wOf (eBin gIx (wVar 8) (wVar 9)))) [9]) (wOf (eBin gMod (wOf (eBin gDiv (wVar 1) (wOf (eC (.int 72))))) (wVar 2))))) Out.nx) (sRet (eMv 4)))
      [some (sd, false), some (.int z0, false), some (.int (n : Int), false), some (.bool w, false), some (.list (rowsD rows), true), a, b, c, none, none] = x ∧ x = .rt (.list (rowsD R)) true := by
  have hsd := hc.1
  have hcond : cAnd (tstE (eBin gGt (wVar 2) (wOf (eC (.int 2))))) (tstE (eBin gEq (wOf (eBin gMod (wOf (eBin gDiv (wVar 1) (wOf (eC (.int 18))))) (wOf (eC (.int 4))))) (wOf (eC (.int 1)))))
      [some (sd, false), some (.int z0, false), some (.int (n : Int), false), some (.bool w, false), some (.list (rowsD rows), true), a, b, c, none, none] =
      some (decide (2 < (n : Int)) && decide (z0 / 18 % 4 = 1), [some (sd, false), some (.int z0, false), some (.int (n : Int), false), some (.bool w, false), some (.list (rowsD rows), true), a, b, c, none, none]) :=
    v_ca (by walk_at "ev") fun _ => by walk_at "ev"
  by_cases h : (2 < (n : Int)) ∧ z0 / 18 % 4 = 1
  · have hn0 : 0 < n := by omega
    have h0 : 0 < rows.length := by omega
    have h1 : n - 1 < rows.length := by omega
    have r0 := hr _ (List.getElem_mem h0)
    have r1 := hr _ (List.getElem_mem h1)
    have g0 : gIx (.list (rowsD rows)) (.int 0) = some (.list (rows[0].map .int), false) := g_rowAt (k := 0) h0
    have g1 : gIx (.list (rowsD rows)) (.int ((n : Int) - 1)) = some (.list (rows[n - 1].map .int), false) := by
      rw [show (n : Int) - 1 = ((n - 1 : Nat) : Int) by omega]
      exact g_rowAt h1
    have hlc := lc_map (g := gNm 9) (c := gTst) (f := eBin gAdd (wOf (eBin gIx (wOf (eBin gIx (wVar 4) (wOf (eC (.int 0))))) (wVar 9))) (wOf (eBin gIx (wVar 8) (wVar 9)))) (vs := [9])
      (e0 := [some (sd, false), some (.int z0, false), some (.int (n : Int), false), some (.bool w, false), some (.list (rowsD rows), true), a, b, c, some (.list (rows[n - 1].map .int), false), none])
      (fun i : Nat => PyData.int (0 + (i : Int))) (fun i => .int (rows[0].getD i 0 + rows[n - 1].getD i 0)) (fun _ => true) (List.range n) fun i hi => by
        have hi' : i < n := List.mem_range.mp hi
        refine ⟨_, rfl, rfl, rfl, fun _ => ⟨false, ?_⟩⟩
        have c0 : gIx (.list (rows[0].map .int)) (.int (0 + (i : Int))) = some (.int (rows[0].getD i 0), false) := by
          have hi0 : i < rows[0].length := by rw [r0.1]; exact hi'
          rw [Int.zero_add, g_cellAt hi0, List.getD_eq_getElem?_getD, List.getElem?_eq_getElem hi0]
          rfl
        have c1 : gIx (.list (rows[n - 1].map .int)) (.int (0 + (i : Int))) = some (.int (rows[n - 1].getD i 0), false) := by
          have hi0 : i < rows[n - 1].length := by rw [r1.1]; exact hi'
          rw [Int.zero_add, g_cellAt hi0, List.getD_eq_getElem?_getD, List.getElem?_eq_getElem hi0]
          rfl
        exact v_bin (v_of (v_bin (v_of (v_bin (by walk_at "ev") (by walk_at "ev") g0)) (by walk_at "ev") c0)) (v_of (v_bin (by walk_at "ev") (by walk_at "ev") c1)) g_add
    rw [List.filter_eq_self.mpr fun _ _ => rfl] at hlc
    have hval : (List.range n).map (fun i => PyData.int (rows[0].getD i 0 + rows[n - 1].getD i 0)) = ((List.range n).map fun i => rows[0].getD i 0 + rows[n - 1].getD i 0).map .int := by
      rw [List.map_map]
      rfl
    rw [hval] at hlc
    have hq : 0 ≤ z0 / 72 % (n : Int) ∧ z0 / 72 % (n : Int) < n := ⟨Int.emod_nonneg _ (by omega), Int.emod_lt_of_pos _ (by omega)⟩
    obtain ⟨q, hq1⟩ : ∃ q : Nat, z0 / 72 % (n : Int) = (q : Int) := ⟨_, (Int.toNat_of_nonneg hq.1).symm⟩
    refine ⟨rows.set q ((List.range n).map fun i => rows[0].getD i 0 + rows[n - 1].getD i 0), (hr.mono (by decide)).set ⟨by rw [List.length_map, List.length_range], fun e he => ?_⟩, by rw [List.length_set]; exact hl, _, rfl, ?_⟩
    · obtain ⟨i, hi, rfl⟩ := List.mem_map.mp he
      have hi' : i < n := List.mem_range.mp hi
      have q0 := r0.2 _ (List.getElem_mem (show i < rows[0].length by rw [r0.1]; exact hi'))
      have q1 := r1.2 _ (List.getElem_mem (show i < rows[n - 1].length by rw [r1.1]; exact hi'))
      rw [List.getD_eq_getElem?_getD, List.getD_eq_getElem?_getD, List.getElem?_eq_getElem (show i < rows[0].length by rw [r0.1]; exact hi'), List.getElem?_eq_getElem (show i < rows[n - 1].length by rw [r1.1]; exact hi'), Option.getD_some, Option.getD_some]
      omega
    · rw [rowsD_set]
      refine w_seq (w_ift hcond (by rw [decide_eq_true h.1, decide_eq_true h.2]; rfl) (w_seq (w_set (v_bin (by walk_at "ev") (by walk_at "ev") g1)) (w_setIx' (v_lcR (by walk_at "ev") (by omega) hlc) (v_of (v_bin (by walk_at "ev") (by walk_at "ev") (g_mod (by omega)))) rfl (by rw [rowsD_len, hq1]; exact ixN_nat (by omega)) rfl))) (w_ret (by walk_at "ev"))
  · refine ⟨rows, hr.mono (by decide), hl, _, rfl, ?_⟩
    refine w_seq (w_iff hcond ?_ rfl) (w_ret (by walk_at "ev"))
    by_cases h2 : 2 < (n : Int)
    · rw [decide_eq_false (fun z => h ⟨h2, z⟩), Bool.and_false]
    · rw [decide_eq_false h2]
      rfl
theorem g_rows : ∃ n rows, n ≤ 5 ∧ Sq n rows ∧ g__law_rows gc [sd] = some (.list (rowsD rows), true) := by
  have hsd := hc.1
  have m0 := g_mixed hc (k := 0) (by omega) (by omega)
  generalize mixed ns 0 = z0 at m0
  have hq : 0 ≤ z0 % 6 ∧ z0 % 6 < 6 := by omega
  obtain ⟨n, hn⟩ : ∃ n : Nat, z0 % 6 = (n : Int) := ⟨_, (Int.toNat_of_nonneg hq.1).symm⟩
  have hn5 : n ≤ 5 := by omega
  generalize hw : decide (z0 / 6 % 3 = 1) = w
  have loop1 := loop_rg (g := gNm 5) (fb := f__law_rows_b2 gc) (lo := 0) (n := n) (env := [some (sd, false), some (.int z0, false), some (.int (n : Int), false), some (.bool w, false), some (.list (rowsD []), true), none, none, none, none, none])
    (fun k env => ∃ a rows, env = [some (sd, false), some (.int z0, false), some (.int (n : Int), false), some (.bool w, false), some (.list (rowsD rows), true), a, none, none, none, none] ∧ rows.length = k ∧ AllOk n 1000000000000 rows)
    ⟨none, [], rfl, rfl, fun r h => by cases h⟩ (fun k hk env hp => by
      obtain ⟨a, rows, rfl, hl, ho⟩ := hp
      refine ⟨_, _, rfl, .inl (rows_b2 (a := a) hc hn5 hk (by omega)), some (.int (0 + (k : Int)), false), _, rfl, by rw [List.length_append, hl]; rfl, ho.app ⟨by rw [List.length_map, List.length_range], fun e he => ?_⟩⟩
      obtain ⟨i, _, rfl⟩ := List.mem_map.mp he
      exact numb_lo ns w _)
  obtain ⟨e1, he1, a1, rows1, rfl, hl1, ho1⟩ := loop1
  have loop2 := loop_rg (g := gNm 5) (fb := f__law_rows_b1 gc) (lo := 0) (n := n) (env := [some (sd, false), some (.int z0, false), some (.int (n : Int), false), some (.bool w, false), some (.list (rowsD rows1), true), a1, none, none, none, none])
    (fun k env => ∃ a b c rows, env = [some (sd, false), some (.int z0, false), some (.int (n : Int), false), some (.bool w, false), some (.list (rowsD rows), true), a, b, c, none, none] ∧ rows.length = n ∧ AllOk n 1000000000000 rows)
    ⟨a1, none, none, rows1, rfl, hl1, ho1⟩ (fun k hk env hp => by
      obtain ⟨a, b, c, rows, rfl, hl, ho⟩ := hp
      have hk' : k < rows.length := by omega
      have hrk := ho _ (List.getElem_mem hk')
      have ha := ahead_lo n (mixed ns 1) k
      refine ⟨_, _, rfl, .inl (rows_b1 (a := a) hc hn5 hk hl hrk.1), _, _, _, _, rfl, by rw [List.length_set]; exact hl, ho.set ⟨?_, fun e he => ?_⟩⟩
      · rw [List.length_append, List.length_replicate, List.length_drop, hrk.1]
        omega
      · rcases List.mem_append.mp he with q | q
        · rw [List.eq_of_mem_replicate q]
          decide
        · exact hrk.2 e (List.mem_of_mem_drop q))
  obtain ⟨e2, he2, a2, b2, c2, rows2, rfl, hl2, ho2⟩ := loop2
  obtain ⟨R, hR, hRl, x, hx, rfl⟩ := rows_last (w := w) (z0 := z0) (a := a2) (b := b2) (c := c2) hc hn5 hl2 ho2
  refine ⟨n, R, hn5, ⟨hRl, fun r hr => ⟨(hR r hr).1, fun e he => by have := (hR r hr).2 e he; omega⟩⟩, ?_⟩
  have hr : f__law_rows gc (Fw.envOf 10 [false] [sd]) = .rt (.list (rowsD R)) true := by
    show f__law_rows gc [some (sd, false), none, none, none, none, none, none, none, none, none] = _
    refine w_seq (w_set (v_call (by walk_at "ev") m0)) ?_
    refine w_seq (w_set (by walk_at "ev")) ?_
    rw [hn]
    refine w_seq (w_set (by walk_at "ev")) ?_
    rw [hw]
    refine w_seq (w_set (by walk_at "ev")) ?_
    refine w_seq (w_for (v_ir1 (by walk_at "ev") (by omega)) (by rw [Int.toNat_natCast]; exact he1)) ?_
    refine w_seq (w_for (v_ir1 (by walk_at "ev") (by omega)) (by rw [Int.toNat_natCast]; exact he2)) ?_
    exact hx
  show (if _ then outR _ else _) = _
  rw [hr]
  rfl
end
end Kx
namespace Kx
open PySem PySem.Spec PyProof.Rows L2 Evl Fw
local macro_rules | `(tactic| walk_at "side") => `(tactic| first | rfl | decide | omega | assumption | (simp only [List.length_cons, List.length_nil]; omega))
local macro_rules | `(tactic| walk_at "opv") => `(tactic| first
  | ((with_reducible apply y_add); rfl; rfl) | ((with_reducible apply y_sub); rfl; rfl) | ((with_reducible apply y_lt); rfl; rfl) | ((with_reducible apply y_le); rfl; rfl)
  | ((with_reducible apply y_gt); rfl; rfl) | ((with_reducible apply y_ge); rfl; rfl) | ((with_reducible apply y_eq); rfl; rfl) | ((with_reducible apply y_ne); rfl; rfl)
  | ((with_reducible apply y_mod); walk_at "side"; rfl; rfl) | ((with_reducible apply y_div); walk_at "side"; rfl; rfl) | ((with_reducible apply y_mulr); walk_at "side"; rfl; rfl) | ((with_reducible apply y_mull); walk_at "side"; rfl; rfl)
  | with_reducible assumption | assumption | rfl)
local macro_rules | `(tactic| walk_at "ev") => `(tactic| first
  | ((with_reducible apply x_wc); rfl; rfl)
  | ((with_reducible apply x_wt); rfl; rfl; rfl)
  | ((with_reducible apply x_w); rfl; (first | rfl | assumption); rfl)
  | ((with_reducible apply x_s); rfl; (first | rfl | assumption); rfl; rfl)
  | ((with_reducible apply x_o); rfl; rfl; rfl; rfl)
  | ((with_reducible apply x_c); rfl; rfl; rfl)
  | ((with_reducible apply x_an); rfl; rfl)
  | ((with_reducible apply x_on); rfl; rfl)
  | ((with_reducible apply v_of); walk_at "ev")
  | ((with_reducible apply v_bin); walk_at "ev"; walk_at "ev"; walk_at "opv")
  | ((with_reducible apply v_ac); walk_at "ev"; walk_at "ev")
  | ((with_reducible apply v_bc); walk_at "ev"; walk_at "ev")
  | ((with_reducible apply v_call); walk_at "ev"; first | with_reducible assumption | assumption | rfl)
  | ((with_reducible apply v_callB); walk_at "ev"; first | with_reducible assumption | assumption | rfl)
  | ((with_reducible apply x_tup); walk_at "ev"; walk_at "side"; rfl; rfl)
  | ((with_reducible apply x_lst); walk_at "ev"; walk_at "side"; rfl; rfl)
  | ((with_reducible apply v_tst); walk_at "ev")
  | ((with_reducible apply v_neg); walk_at "ev")
  | ((with_reducible apply v_ir1); walk_at "ev"; walk_at "side")
  | ((with_reducible apply x_int); rfl; rfl; rfl) | ((with_reducible apply x_ins); rfl; rfl; rfl) | ((with_reducible apply x_ino); rfl; rfl; rfl)
  | ((with_reducible apply v_il); walk_at "ev")
  | ((with_reducible apply v_ilw); walk_at "ev")
  | ((with_reducible apply v_oy); walk_at "ev")
  | ((with_reducible apply x_m); rfl; rfl; rfl))

theorem g_law_true {ns : List Int} {sd : PyData} {gc : GFn} (hc : CellOk ns sd gc) : ∃ fr, g_law gc [sd] = some (.bool true, fr) := by
  have hsd := hc.1
  obtain ⟨n, R, hn, hs, hrows⟩ := g_rows hc
  have hgood : RowsGood R := ⟨by have := hs.1; omega, fun row hr => ⟨by have := (hs.2 row hr).1; have := hs.1; omega, fun e he => by have := (hs.2 row hr).2 e he; omega⟩⟩
  have hw := g_worth_of_D hgood
  rw [worthR_law (fun row hr => by rw [(hs.2 row hr).1, hs.1]), hs.1] at hw
  have hl := g_lworth n R hs (by omega) 6 (by omega)
  have hlc := lc_map (g := gNm 4) (c := gTst) (f := eCallB gList (bCons (wVar 4) aNil)) (vs := [4]) (e0 := [some (sd, false), some (.list (rowsD R), true), none, none, none]) rowI rowI (fun _ => true) R fun r _ => ⟨_, rfl, rfl, rfl, fun _ => ⟨true, v_callB (by walk_at "ev") rfl⟩⟩
  rw [List.filter_eq_self.mpr fun _ _ => rfl] at hlc
  generalize lawN n R = W at hw hl
  have hr : f_law gc (Fw.envOf 5 [false] [sd]) = .rt (.bool true) false := by
    show f_law gc [some (sd, false), none, none, none, none] = _
    refine w_seq (w_set (v_call (by walk_at "ev") hrows)) ?_
    refine w_seq (w_set (v_lc (v_ilw (by walk_at "ev")) (by rw [rowsD_len]; have := hs.1; omega) (by exact hlc))) ?_
    refine w_seq (w_set (v_call (by walk_at "ev") hw)) ?_
    refine w_seq (w_iff (v_co (b1 := false) (b2 := false) (v_cn (b := true) (v_tst (v_isi (by walk_at "ev") rfl (by decide +kernel)))) fun _ => v_co (b1 := false) (b2 := false) (v_tst (v_isi (by walk_at "ev") rfl (by decide +kernel))) fun _ => v_tst (v_bin (by walk_at "ev") (v_of (v_call (by walk_at "ev") hl)) (neD_same (lay_shaped (lay_int (n := 0) W) (by decide))))) rfl rfl) ?_
    exact w_ret (v_bin (by walk_at "ev") (by walk_at "ev") (eqD_same (lay_shaped (lay_rows R) (by decide))))
  refine ⟨false, ?_⟩
  show (if _ then outR _ else _) = _
  rw [hr]
  rfl
end Kx
namespace Kx
open PySem PySem.Spec PyProof.Rows L2 Evl Fw
theorem all_mk {l : PySem.W.OpenLaw} {w : World} {K : PySem.W.Frag} {h : Heap} {mg : Str → Option Value} {fa : Addr} (X : K.In h) (G : h.Ns mainGlobals mg) (hfa : mg "law" = some (.ref fa))
    {p0 p1 p2 p3 p4 p5 p6 p7 p8 : Addr} {od0 an0 od1 an1 od2 an2 od3 an3 od4 an4 od5 an5 od6 an6 od7 an7 od8 an8 : Option Addr} {sl0 sl1 sl2 sl3 sl4 sl5 sl6 sl7 sl8 : Array (Option Value)} {oc0 kV0 dc0 pm0 cd0 ct0 oc1 kV1 dc1 pm1 cd1 ct1 oc2 kV2 dc2 pm2 cd2 ct2 oc3 kV3 dc3 pm3 cd3 ct3 oc4 kV4 dc4 pm4 cd4 ct4 oc5 kV5 dc5 pm5 cd5 ct5 oc6 kV6 dc6 pm6 cd6 ct6 oc7 kV7 dc7 pm7 cd7 ct7 oc8 kV8 dc8 pm8 cd8 ct8 : Value}
    (a0 : PySem.W.nsIn K mainGlobals "_worth_by_first_row" = some (some (.ref p0))) (l0 : K.lookup p0 = some ⟨oc0, od0, .func (PySem.W.fnOf "_worth_by_first_row" "_worth_by_first_row" (defArgs s__worth_by_first_row) (defBody s__worth_by_first_row) (defScope s__worth_by_first_row) .none kV0 dc0 pm0 an0 cd0 ct0), sl0⟩) (q0 : PySem.W.codeIn K cd0 "_worth_by_first_row" = true) (k0 : PySem.W.keepIn K (.ref p0) = true)
    (a1 : PySem.W.nsIn K mainGlobals "_worth_of_rest" = some (some (.ref p1))) (l1 : K.lookup p1 = some ⟨oc1, od1, .func (PySem.W.fnOf "_worth_of_rest" "_worth_of_rest" (defArgs s__worth_of_rest) (defBody s__worth_of_rest) (defScope s__worth_of_rest) .none kV1 dc1 pm1 an1 cd1 ct1), sl1⟩) (q1 : PySem.W.codeIn K cd1 "_worth_of_rest" = true) (k1 : PySem.W.keepIn K (.ref p1) = true)
    (a2 : PySem.W.nsIn K mainGlobals "worth_of" = some (some (.ref p2))) (l2 : K.lookup p2 = some ⟨oc2, od2, .func (PySem.W.fnOf "worth_of" "worth_of" (defArgs s_worth_of) (defBody s_worth_of) (defScope s_worth_of) .none kV2 dc2 pm2 an2 cd2 ct2), sl2⟩) (q2 : PySem.W.codeIn K cd2 "worth_of" = true) (k2 : PySem.W.keepIn K (.ref p2) = true)
    (a3 : PySem.W.nsIn K mainGlobals "_law_cell_at" = some (some (.ref p3))) (l3 : K.lookup p3 = some ⟨oc3, od3, .func (PySem.W.fnOf "_law_cell_at" "_law_cell_at" (defArgs s__law_cell_at) (defBody s__law_cell_at) (defScope s__law_cell_at) .none kV3 dc3 pm3 an3 cd3 ct3), sl3⟩) (q3 : PySem.W.codeIn K cd3 "_law_cell_at" = true) (k3 : PySem.W.keepIn K (.ref p3) = true)
    (a4 : PySem.W.nsIn K mainGlobals "_law_mixed" = some (some (.ref p4))) (l4 : K.lookup p4 = some ⟨oc4, od4, .func (PySem.W.fnOf "_law_mixed" "_law_mixed" (defArgs s__law_mixed) (defBody s__law_mixed) (defScope s__law_mixed) .none kV4 dc4 pm4 an4 cd4 ct4), sl4⟩) (q4 : PySem.W.codeIn K cd4 "_law_mixed" = true) (k4 : PySem.W.keepIn K (.ref p4) = true)
    (a5 : PySem.W.nsIn K mainGlobals "_law_number" = some (some (.ref p5))) (l5 : K.lookup p5 = some ⟨oc5, od5, .func (PySem.W.fnOf "_law_number" "_law_number" (defArgs s__law_number) (defBody s__law_number) (defScope s__law_number) .none kV5 dc5 pm5 an5 cd5 ct5), sl5⟩) (q5 : PySem.W.codeIn K cd5 "_law_number" = true) (k5 : PySem.W.keepIn K (.ref p5) = true)
    (a6 : PySem.W.nsIn K mainGlobals "_law_rows" = some (some (.ref p6))) (l6 : K.lookup p6 = some ⟨oc6, od6, .func (PySem.W.fnOf "_law_rows" "_law_rows" (defArgs s__law_rows) (defBody s__law_rows) (defScope s__law_rows) .none kV6 dc6 pm6 an6 cd6 ct6), sl6⟩) (q6 : PySem.W.codeIn K cd6 "_law_rows" = true) (k6 : PySem.W.keepIn K (.ref p6) = true)
    (a7 : PySem.W.nsIn K mainGlobals "_law_worth" = some (some (.ref p7))) (l7 : K.lookup p7 = some ⟨oc7, od7, .func (PySem.W.fnOf "_law_worth" "_law_worth" (defArgs s__law_worth) (defBody s__law_worth) (defScope s__law_worth) .none kV7 dc7 pm7 an7 cd7 ct7), sl7⟩) (q7 : PySem.W.codeIn K cd7 "_law_worth" = true) (k7 : PySem.W.keepIn K (.ref p7) = true)
    (a8 : PySem.W.nsIn K mainGlobals "law" = some (some (.ref p8))) (l8 : K.lookup p8 = some ⟨oc8, od8, .func (PySem.W.fnOf "law" "law" (defArgs s_law) (defBody s_law) (defScope s_law) .none kV8 dc8 pm8 an8 cd8 ct8), sl8⟩) (q8 : PySem.W.codeIn K cd8 "law" = true) (k8 : PySem.W.keepIn K (.ref p8) = true)
    (y_enumerate : PySem.W.nsIn K mainGlobals "enumerate" = some none)
    (y_len : PySem.W.nsIn K mainGlobals "len" = some none)
    (y_tuple : PySem.W.nsIn K mainGlobals "tuple" = some none)
    (y_range : PySem.W.nsIn K mainGlobals "range" = some none)
    (y_max : PySem.W.nsIn K mainGlobals "max" = some none)
    (y_min : PySem.W.nsIn K mainGlobals "min" = some none)
    (y_isinstance : PySem.W.nsIn K mainGlobals "isinstance" = some none)
    (y_bool : PySem.W.nsIn K mainGlobals "bool" = some none)
    (y_int : PySem.W.nsIn K mainGlobals "int" = some none)
    (y_list : PySem.W.nsIn K mainGlobals "list" = some none) :
    ∃ fd : FuncData, (∀ (s : Shared) (v : Value), BindsTo s fd ⟨[v], []⟩ [("_law_script", v)]) ∧ ∀ base : Heap, K.In base → base.Ns mainGlobals mg → FnOk l.prog w K mg base CX0 19 fa fd ["_law_script"] (spLaw K) := by
  have e := hfa.symm.trans (PySem.W.mg_of X G a8)
  cases e
  have z_enumerate := PySem.W.mg_none_of X G y_enumerate
  have z_len := PySem.W.mg_none_of X G y_len
  have z_tuple := PySem.W.mg_none_of X G y_tuple
  have z_range := PySem.W.mg_none_of X G y_range
  have z_max := PySem.W.mg_none_of X G y_max
  have z_min := PySem.W.mg_none_of X G y_min
  have z_isinstance := PySem.W.mg_none_of X G y_isinstance
  have z_bool := PySem.W.mg_none_of X G y_bool
  have z_int := PySem.W.mg_none_of X G y_int
  have z_list := PySem.W.mg_none_of X G y_list
  have F__worth_by_first_row := fun_mk (st := s__worth_by_first_row) l0 q0 k0
  have b__worth_by_first_row := F__worth_by_first_row.binds (ps := ["rows", "places", "known"]) fun _ _ _ _ _ _ us hl => match us, hl with | [_, _, _], _ => rfl
  have F__worth_of_rest := fun_mk (st := s__worth_of_rest) l1 q1 k1
  have b__worth_of_rest := F__worth_of_rest.binds (ps := ["rows", "places", "known"]) fun _ _ _ _ _ _ us hl => match us, hl with | [_, _, _], _ => rfl
  have F_worth_of := fun_mk (st := s_worth_of) l2 q2 k2
  have b_worth_of := F_worth_of.binds (ps := ["rows"]) fun _ _ _ _ _ _ us hl => match us, hl with | [_], _ => rfl
  have F__law_cell_at := fun_mk (st := s__law_cell_at) l3 q3 k3
  have b__law_cell_at := F__law_cell_at.binds (ps := ["_law_script", "_law_k"]) fun _ _ _ _ _ _ us hl => match us, hl with | [_, _], _ => rfl
  have F__law_mixed := fun_mk (st := s__law_mixed) l4 q4 k4
  have b__law_mixed := F__law_mixed.binds (ps := ["_law_script", "_law_k"]) fun _ _ _ _ _ _ us hl => match us, hl with | [_, _], _ => rfl
  have F__law_number := fun_mk (st := s__law_number) l5 q5 k5
  have b__law_number := F__law_number.binds (ps := ["_law_script", "_law_k", "_law_wide"]) fun _ _ _ _ _ _ us hl => match us, hl with | [_, _, _], _ => rfl
  have F__law_rows := fun_mk (st := s__law_rows) l6 q6 k6
  have b__law_rows := F__law_rows.binds (ps := ["_law_script"]) fun _ _ _ _ _ _ us hl => match us, hl with | [_], _ => rfl
  have F__law_worth := fun_mk (st := s__law_worth) l7 q7 k7
  have b__law_worth := F__law_worth.binds (ps := ["_law_rows_here"]) fun _ _ _ _ _ _ us hl => match us, hl with | [_], _ => rfl
  have F_law := fun_mk (st := s_law) l8 q8 k8
  refine ⟨PySem.W.fnOf "law" "law" (defArgs s_law) (defBody s_law) (defScope s_law) .none kV8 dc8 pm8 an8 cd8 ct8, fun s v => .of_eq rfl, fun base _ _ => ?_⟩
  refine fn_law fun aS nsS sd gc hc hG hlen => ?_
  have h_rest : ∀ (rows : List (List Int)) (m : Nat), HasS l.prog w K mg base (2 * m + 1) "_worth_of_rest" (spRest rows m) := fun rows m => has_rest F__worth_of_rest F__worth_by_first_row (PySem.W.mg_of X G a1) (PySem.W.mg_of X G a0) k1 k0 b__worth_of_rest b__worth_by_first_row z_len z_enumerate m
  have h_worth_of := has_mk (PySem.W.mg_of X G a2) k2 b_worth_of (ok_worth_of (P := l.prog) (w := w) (base := base) F_worth_of h_rest z_len z_tuple z_range)
  have h__law_cell_at := has_mk (PySem.W.mg_of X G a3) k3 b__law_cell_at (ok__law_cell_at (P := l.prog) (w := w) (base := base) hG F__law_cell_at z_len)
  have h__law_mixed := has_mk (PySem.W.mg_of X G a4) k4 b__law_mixed (ok__law_mixed (P := l.prog) (w := w) (base := base) F__law_mixed h__law_cell_at)
  have h__law_number := has_mk (PySem.W.mg_of X G a5) k5 b__law_number (ok__law_number (P := l.prog) (w := w) (base := base) F__law_number h__law_mixed)
  have h__law_rows := has_mk (PySem.W.mg_of X G a6) k6 b__law_rows (ok__law_rows (P := l.prog) (w := w) (base := base) F__law_rows h__law_mixed h__law_number z_range z_max z_min)
  have h__law_worth := has_worth (P := l.prog) (w := w) (base := base) F__law_worth (PySem.W.mg_of X G a7) b__law_worth z_range z_len 6
  obtain ⟨fr, hg⟩ := g_law_true hc
  exact fn_scr (ok_law F_law h__law_worth h_worth_of h__law_rows z_isinstance z_bool z_int z_list) hg
end Kx
open PySem PySem.W PyProof.Rows
set_option maxRecDepth 100000 in
set_option maxHeartbeats 0 in
theorem PySem.Challenge.cw_treetally_k04_worths_by_first_rows_holds : PySem.Challenge.rw_treetally_k04_worths_by_first_rows.Holds := by
  w_on; o_law; k_head; (case hw => w_witness2)
  k_fill
  refine L2.walk_of (l := PySem.Challenge.rw_treetally_k04_worths_by_first_rows) (n := 63) (k := 19) (x := "_law_script") (CX := fun _ => L2.CX0) (sp := fun w => Fw.spLaw _) rfl (by decide) rfl ⟨rfl, by decide, by decide⟩ (fun w h Y => PySem.W.kIn_of Y) ?F (fun _ _ a ns hl hO hS => ⟨a, ns, rfl, Fw.scr_of hO hS, hl, fun _ => rfl⟩) (fun _ _ _ _ _ h => h)
  case F =>
    intro w mg fa h KX G hmg
    refine' Kx.all_mk KX G hmg ?a0 ?l0 ?q0 ?k0 ?a1 ?l1 ?q1 ?k1 ?a2 ?l2 ?q2 ?k2 ?a3 ?l3 ?q3 ?k3 ?a4 ?l4 ?q4 ?k4 ?a5 ?l5 ?q5 ?k5 ?a6 ?l6 ?q6 ?k6 ?a7 ?l7 ?q7 ?k7 ?a8 ?l8 ?q8 ?k8 ?y_enumerate ?y_len ?y_tuple ?y_range ?y_max ?y_min ?y_isinstance ?y_bool ?y_int ?y_list
    (case a0 => k_is)
    (case l0 => k_is)
    (case q0 => k_is)
    (case k0 => k_is)
    (case a1 => k_is)
    (case l1 => k_is)
    (case q1 => k_is)
    (case k1 => k_is)
    (case a2 => k_is)
    (case l2 => k_is)
    (case q2 => k_is)
    (case k2 => k_is)
    (case a3 => k_is)
    (case l3 => k_is)
    (case q3 => k_is)
    (case k3 => k_is)
    (case a4 => k_is)
    (case l4 => k_is)
    (case q4 => k_is)
    (case k4 => k_is)
    (case a5 => k_is)
    (case l5 => k_is)
    (case q5 => k_is)
    (case k5 => k_is)
    (case a6 => k_is)
    (case l6 => k_is)
    (case q6 => k_is)
    (case k6 => k_is)
    (case a7 => k_is)
    (case l7 => k_is)
    (case q7 => k_is)
    (case k7 => k_is)
    (case a8 => k_is)
    (case l8 => k_is)
    (case q8 => k_is)
    (case k8 => k_is)
    (case y_enumerate => k_is)
    (case y_len => k_is)
    (case y_tuple => k_is)
    (case y_range => k_is)
    (case y_max => k_is)
    (case y_min => k_is)
    (case y_isinstance => k_is)
    (case y_bool => k_is)
    (case y_int => k_is)
    (case y_list => k_is)
