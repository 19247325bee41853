import PyProof.Rows.All
import Wide.All
import OpenK.AllK
import Wide.FinOn
import HandS.ForMost
import HandS.Evl
import HandS.IsInst
import HandS.Zip
import HandS.Conv
import HandS.Wide
import HandS.TupAny
import HandS.Sort
import HandS.SortInts
import HandS.More
import KE.GoesEnum
import HandS.Walk
import KE.DataMinMax
import HandS.Style
import HandS.Deep
import HandS.SetFor
import HandS.Exc
import HandS.ExcOwn
import HandS.ExcCtx
import HandS.ExcIs
import HandS.HotCalls
import HandS.Strs
import KE.LtSeq
import HandS.TupSets
import HandS.Keys
import PyProof.Rows.All
import PyProof.ZipIter
import PyProof.CallType
import PyProof.Walk
import PyProof.WalkLemmas
import PyProof.RangeIter
import PyProof.RulesTry
import HandS.ClsMeth
import PyProof.ReprRoads
import PyProof.CallStr
import PyProof.ReprBulk
import HandS.Ends
import PySem.Challenge.RW_treetally_k02_what_is_no_net
set_option Elab.async false
set_option linter.all false
set_option maxRecDepth 100000
namespace Fw
open PySem PySem.Spec PyProof.Rows L2 Evl

abbrev En := List (Option (PyData × Bool))

abbrev Rq (H : Hp) (a : Addr) (u : HO) : Prop := H a = some u
theorem ex_rq {H H' : Hp} {a : Addr} {u : HO} (e : Ex H H') (h : Rq H a u) : Rq H' a u := e a u h
mutual
inductive Dq (H : Hp) : V → PyData → Prop
  | non : Dq H .non .none
  | bl (b : Bool) : Dq H (.bl b) (.bool b)
  | int (i : Int) : Dq H (.int i) (.int i)
  | str (x : Str) : Dq H (.str x) (.str x)
  | op (a : Addr) : Dq H (.ref a) (.dict [(.int (Int.ofNat a), .none)])
  | fz {a : Addr} {o : Obj} (ns : List Int) : H a = some (.frz o (.lst (ns.map V.int))) → Dq H (.ref a) (.dict [(.list (ns.map .int), .none)])
  | d0 {a : Addr} : H a = some (.dK []) → Dq H (.ref a) (.dict [])
  | lst {a : Addr} {xs : List V} {ds : List PyData} : Rq H a (.lst xs) → DqAll H xs ds → Dq H (.ref a) (.list ds)
  | tup {a : Addr} {xs : List V} {ds : List PyData} : Rq H a (.tup xs) → DqAll H xs ds → Dq H (.ref a) (.tuple ds)
inductive DqAll (H : Hp) : List V → List PyData → Prop
  | nil : DqAll H [] []
  | cons {v : V} {vs : List V} {d : PyData} {ds : List PyData} : Dq H v d → DqAll H vs ds → DqAll H (v :: vs) (d :: ds)
end
section

/-! data under a growing heap -/
mutual
theorem dq_dp {K : PySem.W.Frag} {H : Hp} : ∀ {d : PyData} {v : V}, d.canLay0 = true → Dq H v d → Dp K H v d
  | .none, _, _, h => by cases h; exact .non
  | .bool _, _, _, h => by cases h; exact .bl _
  | .int _, _, _, h => by cases h; exact .int _
  | .str _, _, _, h => by cases h; exact .str _
  | .list _, _, c, h => by
    cases h with
    | lst a b => exact .lst (.inl (.inl a)) (dqa_dp (by simpa [PyData.canLay0] using c) b)
  | .tuple _, _, c, h => by
    cases h with
    | tup a b => exact .tup (.inl (.inl a)) (dqa_dp (by simpa [PyData.canLay0] using c) b)
  | .dict _, _, c, h => by simp [PyData.canLay0] at c
theorem dqa_dp {K : PySem.W.Frag} {H : Hp} : ∀ {ds : List PyData} {vs : List V}, PyData.canLayAll0 ds = true → DqAll H vs ds → DpAll K H vs ds
  | [], _, _, h => by cases h; exact .nil
  | _ :: _, _, c, h => by
    cases h with
    | cons a b =>
      have c' := Bool.and_eq_true_iff.mp (by simpa [PyData.canLayAll0] using c)
      exact .cons (dq_dp c'.1 a) (dqa_dp c'.2 b)
end
mutual
theorem dp_mono {H H' : Hp} (e : Ex H H') : ∀ {d : PyData} {v : V}, Dq H v d → Dq H' v d
  | .none, _, h => by cases h; exact .non
  | .bool _, _, h => by cases h; exact .bl _
  | .int _, _, h => by cases h; exact .int _
  | .str _, _, h => by cases h; exact .str _
  | .list _, _, h => by
    cases h with
    | lst a b => exact .lst (ex_rq e a) (dpa_mono e b)
  | .tuple _, _, h => by
    cases h with
    | tup a b => exact .tup (ex_rq e a) (dpa_mono e b)
  | .dict _, _, h => by
    cases h with
    | op a => exact .op _
    | fz ns h => exact .fz ns (e _ _ h)
    | d0 h => exact .d0 (e _ _ h)
theorem dpa_mono {H H' : Hp} (e : Ex H H') : ∀ {ds : List PyData} {vs : List V}, DqAll H vs ds → DqAll H' vs ds
  | [], _, h => by cases h; exact .nil
  | _ :: _, _, h => by
    cases h with
    | cons a b => exact .cons (dp_mono e a) (dpa_mono e b)
end
theorem dpa_len {H : Hp} : ∀ {ds : List PyData} {vs : List V}, DqAll H vs ds → vs.length = ds.length
  | [], _, h => by cases h; rfl
  | _ :: _, _, h => by
    cases h with
    | cons a b => exact congrArg (· + 1) (dpa_len b)
theorem dpa_get {H : Hp} : ∀ {ds : List PyData} {vs : List V} {i : Nat} {d : PyData}, DqAll H vs ds → ds[i]? = some d → ∃ v, vs[i]? = some v ∧ Dq H v d
  | [], _, _, _, h, e => by simp at e
  | x :: _, _, 0, d, h, e => by
    cases h with
    | cons a b =>
      have e' : x = d := by simpa using e
      subst e'
      exact ⟨_, rfl, a⟩
  | _ :: _, _, i + 1, d, h, e => by
    cases h with
    | cons a b =>
      obtain ⟨v, h1, h2⟩ := dpa_get b (by simpa using e)
      exact ⟨v, by simpa using h1, h2⟩
theorem dpa_get' {H : Hp} : ∀ {ds : List PyData} {vs : List V} {i : Nat} {v : V}, DqAll H vs ds → vs[i]? = some v → ∃ d, ds[i]? = some d ∧ Dq H v d
  | [], _, _, _, h, e => by cases h; simp at e
  | x :: _, _, 0, v, h, e => by
    cases h with
    | cons a b =>
      have e' := Option.some.inj e
      subst e'
      exact ⟨_, rfl, a⟩
  | _ :: _, _, i + 1, d, h, e => by
    cases h with
    | cons a b =>
      obtain ⟨v, h1, h2⟩ := dpa_get' b (by simpa using e)
      exact ⟨v, by simpa using h1, h2⟩
theorem dpa_app {H : Hp} : ∀ {ds es : List PyData} {vs ws : List V}, DqAll H vs ds → DqAll H ws es → DqAll H (vs ++ ws) (ds ++ es)
  | [], _, _, _, h, h' => by cases h; exact h'
  | _ :: _, _, _, _, h, h' => by
    cases h with
    | cons a b => exact .cons a (dpa_app b h')
theorem dpa_take {H : Hp} : ∀ {ds : List PyData} {vs : List V} (n : Nat), DqAll H vs ds → DqAll H (vs.take n) (ds.take n)
  | [], _, n, h => by cases h; simp; exact .nil
  | _ :: _, _, 0, h => by simp; exact .nil
  | _ :: _, _, n + 1, h => by
    cases h with
    | cons a b => simpa using DqAll.cons a (dpa_take n b)
theorem dpa_drop {H : Hp} : ∀ {ds : List PyData} {vs : List V} (n : Nat), DqAll H vs ds → DqAll H (vs.drop n) (ds.drop n)
  | [], _, n, h => by cases h; simp; exact .nil
  | _ :: _, _, 0, h => h
  | _ :: _, _, n + 1, h => by
    cases h with
    | cons a b => simpa using dpa_drop n b
theorem dpa_set {H : Hp} {v : V} {d : PyData} (hv : Dq H v d) : ∀ {ds : List PyData} {vs : List V} (n : Nat), DqAll H vs ds → DqAll H (vs.set n v) (ds.set n d)
  | [], _, n, h => by cases h; simp; exact .nil
  | _ :: _, _, 0, h => by
    cases h with
    | cons a b => exact .cons hv b
  | _ :: _, _, n + 1, h => by
    cases h with
    | cons a b => exact .cons a (dpa_set hv n b)
theorem dpa_rep {H : Hp} {ds : List PyData} {vs : List V} (h : DqAll H vs ds) : ∀ n : Nat, DqAll H (List.replicate n vs).flatten (List.replicate n ds).flatten
  | 0 => .nil
  | n + 1 => by
    rw [List.replicate_succ, List.replicate_succ, List.flatten_cons, List.flatten_cons]
    exact dpa_app h (dpa_rep h n)
theorem dpa_atI {H : Hp} {ds : List PyData} {vs : List V} {i : Int} {d : PyData} (h : DqAll H vs ds) (e : atI ds i = some d) : ∃ v, atI vs i = some v ∧ Dq H v d := by
  unfold atI at e ⊢
  rw [dpa_len h]
  cases q : ixN ds.length i with
  | none => rw [q] at e; cases e
  | some j =>
    rw [q] at e
    exact dpa_get h e
def cutA {α : Type} (xs : List α) (lo hi : Option Int) : List α := (xs.drop (HT.sIx xs.length 0 lo)).take (HT.sIx xs.length xs.length hi - HT.sIx xs.length 0 lo)
theorem dpa_cut {H : Hp} {ds : List PyData} {vs : List V} (lo hi : Option Int) (h : DqAll H vs ds) : DqAll H (cutV vs lo hi) (cutA ds lo hi) := by
  unfold cutV cutA
  rw [dpa_len h]
  exact dpa_take _ (dpa_drop _ h)
/-- a parameter's list that is only read: its items are data, itself it is no datum -/
def tokD (ds : List PyData) : PyData := .dict [(.list ds, .bool true)]
def tokOf : PyData → Option (List PyData)
  | .dict [(.list ds, .bool true)] => some ds
  | _ => none
def SlotOk (B R : Hp) (v : V) (d : PyData) : Prop := (Dq R v d ∧ tokOf d = none) ∨ ∃ a vs ds, d = tokD ds ∧ v = .ref a ∧ Rq B a (.lst vs) ∧ DqAll R vs ds
theorem tok_of_dq {R : Hp} {v : V} {d : PyData} (h : Dq R v d) : tokOf d = none := by
  cases h <;> rfl
theorem SlotOk.of {B R : Hp} {v : V} {d : PyData} (h : Dq R v d) : SlotOk B R v d := .inl ⟨h, tok_of_dq h⟩
theorem SlotOk.dq {B R : Hp} {v : V} {d : PyData} (h : SlotOk B R v d) (n : tokOf d = none) : Dq R v d := by
  rcases h with h | ⟨a, vs, ds, rfl, _⟩
  · exact h.1
  · cases n
theorem SlotOk.tok {B R : Hp} {v : V} {d : PyData} {ds : List PyData} (h : SlotOk B R v d) (n : tokOf d = some ds) : ∃ a vs, v = .ref a ∧ Rq B a (.lst vs) ∧ DqAll R vs ds := by
  rcases h with h | ⟨a, vs, es, rfl, h1, h2, h3⟩
  · rw [h.2] at n
    cases n
  · cases n
    exact ⟨a, vs, h1, h2, h3⟩
theorem SlotOk.mono {B R R' : Hp} {v : V} {d : PyData} (e : Ex R R') (h : SlotOk B R v d) : SlotOk B R' v d := by
  rcases h with h | ⟨a, vs, ds, h0, h1, h2, h3⟩
  · exact .inl ⟨dp_mono e h.1, h.2⟩
  · exact .inr ⟨a, vs, ds, h0, h1, h2, dpa_mono e h3⟩
theorem dpa_ints {H : Hp} : ∀ {ns : List Int} {vs : List V}, DqAll H vs (ns.map PyData.int) → vs = ns.map V.int
  | [], _, h => by cases h; rfl
  | _ :: _, _, h => by
    cases h with
    | cons a b =>
      cases a
      rw [dpa_ints b]
      rfl
theorem dpa_bls {H : Hp} : ∀ {ns : List Bool} {vs : List V}, DqAll H vs (ns.map PyData.bool) → vs = ns.map V.bl
  | [], _, h => by cases h; rfl
  | _ :: _, _, h => by
    cases h with
    | cons a b =>
      cases a
      rw [dpa_bls b]
      rfl
theorem dpa_of_ints {H : Hp} : ∀ (ns : List Int), DqAll H (ns.map V.int) (ns.map PyData.int)
  | [] => .nil
  | _ :: r => .cons (.int _) (dpa_of_ints r)

/-! the state of a body: the names' values as data; owned ones are lists that no other name reaches -/
structure SRel (B H0 R0 R H : Hp) (σ : L2.St) (env : En) : Prop where
  rh : Ex R H
  r0 : Ex R0 R
  h0 : Ex H0 H
  bb : Ex B H0
  new : ∀ b o, R b = some o → R0 b = none → H0 b = none
  slot : ∀ (i : Nat) (d : PyData), env[i]? = some (some (d, false)) → ∃ v, σ[i]? = some (some v) ∧ SlotOk B R v d
  own : ∀ (i : Nat) (d : PyData), env[i]? = some (some (d, true)) → ∃ a vs ds, d = .list ds ∧ σ[i]? = some (some (.ref a)) ∧ H a = some (.lst vs) ∧ R a = none ∧ H0 a = none ∧ DqAll R vs ds
  dis : ∀ (i j : Nat) (d e : PyData) (a : Addr), i ≠ j → env[i]? = some (some (d, true)) → env[j]? = some (some (e, true)) → σ[i]? = some (some (.ref a)) → σ[j]? = some (some (.ref a)) → False
  len : σ.length = env.length

/-- the address is none of an owned name -/
def Apart (σ : L2.St) (env : En) (a : Addr) : Prop := ∀ (i : Nat) (d : PyData), env[i]? = some (some (d, true)) → σ[i]? = some (some (.ref a)) → False

def Res (H0 R H : Hp) (σ : L2.St) (env : En) (v : V) (d : PyData) : Bool → Prop
  | true => ∃ a vs ds, v = .ref a ∧ d = .list ds ∧ H a = some (.lst vs) ∧ R a = none ∧ H0 a = none ∧ DqAll R vs ds ∧ Apart σ env a
  | false => Dq R v d

/-- the top of the value can be read, its items are shared -/
def Top (R H : Hp) (v : V) (d : PyData) : Prop :=
  (∃ a vs ds, v = .ref a ∧ d = .list ds ∧ Rq H a (.lst vs) ∧ DqAll R vs ds) ∨ ((∀ ds, d ≠ .list ds) ∧ Dq R v d)

variable {B H0 R0 R R' H H' : Hp} {σ : L2.St} {env env' : En} {v : V} {d : PyData}

theorem top_of_dp (e : Ex R H) (h : Dq R v d) : Top R H v d := by
  cases d with
  | list ds =>
    cases h with
    | lst a b => exact .inl ⟨_, _, _, rfl, rfl, ex_rq e a, b⟩
  | none => exact .inr ⟨fun _ z => (nomatch z), h⟩
  | bool _ => exact .inr ⟨fun _ z => (nomatch z), h⟩
  | int _ => exact .inr ⟨fun _ z => (nomatch z), h⟩
  | str _ => exact .inr ⟨fun _ z => (nomatch z), h⟩
  | tuple _ => exact .inr ⟨fun _ z => (nomatch z), h⟩
  | dict _ => exact .inr ⟨fun _ z => (nomatch z), h⟩
theorem top_mono (a : Ex R R') (b : Ex H H') (h : Top R H v d) : Top R' H' v d := by
  rcases h with ⟨p, vs, ds, e1, e2, h1, h2⟩ | ⟨e, h⟩
  · exact .inl ⟨p, vs, ds, e1, e2, ex_rq b h1, dpa_mono a h2⟩
  · exact .inr ⟨e, dp_mono a h⟩
theorem top_dp (e : Ex R H) (h : Top R H v d) : Dq H v d := by
  rcases h with ⟨p, vs, ds, rfl, rfl, h1, h2⟩ | ⟨_, h⟩
  · exact .lst h1 (dpa_mono e h2)
  · exact dp_mono e h
theorem top_list {ds : List PyData} (h : Top R H v (.list ds)) : ∃ a vs, v = .ref a ∧ Rq H a (.lst vs) ∧ DqAll R vs ds := by
  rcases h with ⟨p, vs, es, rfl, e, h1, h2⟩ | ⟨e, h⟩
  · cases e
    exact ⟨p, vs, rfl, h1, h2⟩
  · exact absurd rfl (e ds)
theorem top_flat (hd : ∀ ds, d ≠ .list ds) (h : Top R H v d) : Dq R v d := by
  rcases h with ⟨p, vs, es, rfl, e, h1, h2⟩ | ⟨e, h⟩
  · exact absurd e (hd es)
  · exact h
theorem top_int {i : Int} (h : Top R H v (.int i)) : v = .int i := by
  have q := top_flat (by intro _ z; cases z) h
  cases q
  rfl
theorem top_bl {i : Bool} (h : Top R H v (.bool i)) : v = .bl i := by
  have q := top_flat (by intro _ z; cases z) h
  cases q
  rfl
theorem top_non (h : Top R H v .none) : v = .non := by
  have q := top_flat (by intro _ z; cases z) h
  cases q
  rfl
theorem top_str {x : Str} (h : Top R H v (.str x)) : v = .str x := by
  have q := top_flat (by intro _ z; cases z) h
  cases q
  rfl
theorem top_tup {ds : List PyData} (e : Ex R H) (h : Top R H v (.tuple ds)) : ∃ a vs, v = .ref a ∧ Rq R a (.tup vs) ∧ DqAll R vs ds := by
  have q := top_flat (by intro _ z; cases z) h
  cases q with
  | tup a b => exact ⟨_, _, rfl, a, b⟩

theorem Res.top {fr : Bool} (S : SRel B H0 R0 R H σ env) (h : Res H0 R H σ env v d fr) : Top R H v d := by
  cases fr with
  | true =>
    obtain ⟨a, vs, ds, rfl, rfl, h1, _, _, h2, _⟩ := h
    exact .inl ⟨a, vs, ds, rfl, rfl, h1, h2⟩
  | false => exact top_of_dp S.rh h

/-- a cell that no one else reaches becomes shared -/
theorem SRel.add {a : Addr} {vs : List V} (S : SRel B H0 R0 R H σ env) (h1 : H a = some (.lst vs)) (h2 : R a = none) (h3 : H0 a = none) (ap : Apart σ env a) :
    Ex R (upd R a (.lst vs)) ∧ SRel B H0 R0 (upd R a (.lst vs)) H σ env := by
  have e : Ex R (upd R a (.lst vs)) := Ex.new h2
  refine ⟨e, fun b o q => ?_, S.r0.trans e, S.h0, S.bb, fun b o q n => ?_, fun i d q => ?_, fun i d q => ?_, S.dis, S.len⟩
  · by_cases hb : b = a
    · subst hb
      rw [upd_same] at q
      cases q
      exact h1
    · rw [upd_ne hb] at q
      exact S.rh b o q
  · by_cases hb : b = a
    · subst hb
      exact h3
    · rw [upd_ne hb] at q
      exact S.new b o q n
  · obtain ⟨v, z1, z2⟩ := S.slot i d q
    exact ⟨v, z1, z2.mono e⟩
  · obtain ⟨b, ws, ds, z1, z2, z3, z4, z5, z6⟩ := S.own i d q
    have hb : b ≠ a := fun z => ap i d q (by rw [← z]; exact z2)
    exact ⟨b, ws, ds, z1, z2, z3, by rw [upd_ne hb]; exact z4, z5, dpa_mono e z6⟩
theorem Res.share {fr : Bool} (S : SRel B H0 R0 R H σ env) (h : Res H0 R H σ env v d fr) : ∃ R', Ex R R' ∧ SRel B H0 R0 R' H σ env ∧ Dq R' v d := by
  cases fr with
  | false => exact ⟨R, Ex.refl R, S, h⟩
  | true =>
    obtain ⟨a, vs, ds, rfl, rfl, h1, h2, h3, h4, h5⟩ := h
    obtain ⟨e, S'⟩ := S.add h1 h2 h3 h5
    exact ⟨_, e, S', .lst upd_same (dpa_mono e h4)⟩
/-- an owned name is given up to be shared -/
theorem SRel.freeze {i : Nat} (S : SRel B H0 R0 R H σ env) (h : env[i]? = some (some (d, true))) : ∃ R' v, Ex R R' ∧ SRel B H0 R0 R' H σ (env.set i (some (d, false))) ∧ σ[i]? = some (some v) ∧ Dq R' v d := by
  obtain ⟨a, vs, ds, rfl, z2, z3, z4, z5, z6⟩ := S.own i d h
  have e : Ex R (upd R a (.lst vs)) := Ex.new z4
  have hi : i < env.length := (List.getElem?_eq_some_iff.mp h).1
  have dd : Dq (upd R a (.lst vs)) (.ref a) (.list ds) := .lst upd_same (dpa_mono e z6)
  refine ⟨upd R a (.lst vs), .ref a, e, ⟨fun b o q => ?_, S.r0.trans e, S.h0, S.bb, fun b o q n => ?_, fun j x q => ?_, fun j x q => ?_, fun j k x y b hjk q1 q2 q3 q4 => ?_, by rw [List.length_set]; exact S.len⟩, z2, dd⟩
  · by_cases hb : b = a
    · subst hb
      rw [upd_same] at q
      cases q
      exact z3
    · rw [upd_ne hb] at q
      exact S.rh b o q
  · by_cases hb : b = a
    · subst hb
      exact z5
    · rw [upd_ne hb] at q
      exact S.new b o q n
  · by_cases hj : j = i
    · subst hj
      rw [List.getElem?_set_self hi] at q
      cases q
      exact ⟨_, z2, .of dd⟩
    · rw [List.getElem?_set_ne (Ne.symm hj)] at q
      obtain ⟨v, y1, y2⟩ := S.slot j x q
      exact ⟨v, y1, y2.mono e⟩
  · by_cases hj : j = i
    · subst hj
      rw [List.getElem?_set_self hi] at q
      cases q
    · rw [List.getElem?_set_ne (Ne.symm hj)] at q
      obtain ⟨b, ws, es, y1, y2, y3, y4, y5, y6⟩ := S.own j x q
      have hb : b ≠ a := fun z => S.dis j i x (.list ds) a hj q h (by rw [← z]; exact y2) z2
      exact ⟨b, ws, es, y1, y2, y3, by rw [upd_ne hb]; exact y4, y5, dpa_mono e y6⟩
  · have old : ∀ (j : Nat) (x : PyData), (env.set i (some (PyData.list ds, false)))[j]? = some (some (x, true)) → env[j]? = some (some (x, true)) := fun j x q => by
      by_cases hj : j = i
      · subst hj
        rw [List.getElem?_set_self hi] at q
        cases q
      · rw [List.getElem?_set_ne (Ne.symm hj)] at q
        exact q
    exact S.dis j k x y b hjk (old j x q1) (old k y q2) q3 q4
/-- the heap grows -/
theorem SRel.grow (S : SRel B H0 R0 R H σ env) (e : Ex H H') : SRel B H0 R0 R H' σ env :=
  ⟨S.rh.trans e, S.r0, S.h0.trans e, S.bb, S.new, S.slot, fun i d q => by
    obtain ⟨b, ws, ds, z1, z2, z3, z4, z5, z6⟩ := S.own i d q
    exact ⟨b, ws, ds, z1, z2, e b _ z3, z4, z5, z6⟩, S.dis, S.len⟩
/-- the shared part grows by new objects -/
theorem SRel.growR (S : SRel B H0 R0 R H σ env) (e : Ex H H') (e1 : Ex R R') (e2 : Ex R' H') (n : ∀ b o, R' b = some o → R b = none → H b = none) : SRel B H0 R0 R' H' σ env := by
  refine ⟨e2, S.r0.trans e1, S.h0.trans e, S.bb, fun b o q z => ?_, fun i d q => ?_, fun i d q => ?_, S.dis, S.len⟩
  · cases hb : R b with
    | some u => exact S.new b u hb z
    | none => exact fresh_back S.h0 (n b o q hb)
  · obtain ⟨v, y1, y2⟩ := S.slot i d q
    exact ⟨v, y1, y2.mono e1⟩
  · obtain ⟨b, ws, ds, z1, z2, z3, z4, z5, z6⟩ := S.own i d q
    refine ⟨b, ws, ds, z1, z2, e b _ z3, ?_, z5, dpa_mono e1 z6⟩
    cases h : R' b with
    | none => rfl
    | some u =>
      have := n b u h z4
      rw [z3] at this
      cases this
/-- a cell that is no one's is written -/
theorem SRel.other {a : Addr} {o : HO} (S : SRel B H0 R0 R H σ env) (h2 : R a = none) (h3 : H0 a = none) (ap : Apart σ env a) : SRel B H0 R0 R (upd H a o) σ env :=
  ⟨fun b u q => by
    rw [upd_ne (ne_of_none q h2)]
    exact S.rh b u q, S.r0, fun b u q => by
    rw [upd_ne (ne_of_none q h3)]
    exact S.h0 b u q, S.bb, S.new, S.slot, fun i d q => by
    obtain ⟨b, ws, ds, z1, z2, z3, z4, z5, z6⟩ := S.own i d q
    have hb : b ≠ a := fun z => ap i d q (by rw [← z]; exact z2)
    exact ⟨b, ws, ds, z1, z2, by rw [upd_ne hb]; exact z3, z4, z5, z6⟩, S.dis, S.len⟩
theorem SRel.fresh {a : Addr} (S : SRel B H0 R0 R H σ env) (h : H a = none) : R a = none ∧ H0 a = none ∧ Apart σ env a := by
  refine ⟨fresh_back S.rh h, fresh_back S.h0 h, fun i d q z => ?_⟩
  obtain ⟨b, ws, ds, z1, z2, z3, z4, z5, z6⟩ := S.own i d q
  rw [z2] at z
  cases z
  rw [h] at z3
  cases z3
/-- a slot is set to a shared value -/
theorem SRel.setS {i : Nat} (S : SRel B H0 R0 R H σ env) (h : Dq R v d) : SRel B H0 R0 R H (σ.set i (some v)) (env.set i (some (d, false))) := by
  have ln : (σ.set i (some v)).length = (env.set i (some (d, false))).length := by rw [List.length_set, List.length_set]; exact S.len
  by_cases hi : i < env.length
  · have hi' : i < σ.length := by rw [S.len]; exact hi
    refine ⟨S.rh, S.r0, S.h0, S.bb, S.new, fun j x q => ?_, fun j x q => ?_, fun j k x y b hjk q1 q2 q3 q4 => ?_, ln⟩
    · by_cases hj : j = i
      · subst hj
        rw [List.getElem?_set_self hi] at q
        cases q
        exact ⟨v, List.getElem?_set_self hi', .of h⟩
      · rw [List.getElem?_set_ne (Ne.symm hj)] at q
        rw [List.getElem?_set_ne (Ne.symm hj)]
        exact S.slot j x q
    · by_cases hj : j = i
      · subst hj
        rw [List.getElem?_set_self hi] at q
        cases q
      · rw [List.getElem?_set_ne (Ne.symm hj)] at q
        rw [List.getElem?_set_ne (Ne.symm hj)]
        exact S.own j x q
    · have hj : j ≠ i := fun z => by
        subst z
        rw [List.getElem?_set_self hi] at q1
        cases q1
      have hk : k ≠ i := fun z => by
        subst z
        rw [List.getElem?_set_self hi] at q2
        cases q2
      rw [List.getElem?_set_ne (Ne.symm hj)] at q1 q3
      rw [List.getElem?_set_ne (Ne.symm hk)] at q2 q4
      exact S.dis j k x y b hjk q1 q2 q3 q4
  · have hi' : σ.length ≤ i := by rw [S.len]; omega
    have e1 : σ.set i (some v) = σ := List.set_eq_of_length_le hi'
    have e2 : env.set i (some (d, false)) = env := List.set_eq_of_length_le (by omega)
    rw [e1, e2]
    exact S
/-- a slot is forgotten -/
theorem SRel.forget {i : Nat} (S : SRel B H0 R0 R H σ env) : SRel B H0 R0 R H σ (env.set i none) := by
  by_cases hi : i < env.length
  · have old : ∀ (j : Nat) (x : PyData × Bool), (env.set i none)[j]? = some (some x) → j ≠ i ∧ env[j]? = some (some x) := fun j x q => by
      by_cases hj : j = i
      · subst hj
        rw [List.getElem?_set_self hi] at q
        cases q
      · rw [List.getElem?_set_ne (Ne.symm hj)] at q
        exact ⟨hj, q⟩
    exact ⟨S.rh, S.r0, S.h0, S.bb, S.new, fun j x q => S.slot j x (old j _ q).2, fun j x q => S.own j x (old j _ q).2,
      fun j k x y b hjk q1 q2 q3 q4 => S.dis j k x y b hjk (old j _ q1).2 (old k _ q2).2 q3 q4, by rw [List.length_set]; exact S.len⟩
  · rw [List.set_eq_of_length_le (by omega)]
    exact S
/-- a slot is set to a fresh list -/
theorem SRel.setO {i : Nat} {a : Addr} {vs : List V} {ds : List PyData} (S : SRel B H0 R0 R H σ env) (h1 : H a = some (.lst vs)) (h2 : R a = none) (h3 : H0 a = none) (h4 : DqAll R vs ds) (ap : Apart σ env a) :
    SRel B H0 R0 R H (σ.set i (some (.ref a))) (env.set i (some (.list ds, true))) := by
  have ln : (σ.set i (some (V.ref a))).length = (env.set i (some (PyData.list ds, true))).length := by rw [List.length_set, List.length_set]; exact S.len
  by_cases hi : i < env.length
  · have hi' : i < σ.length := by rw [S.len]; exact hi
    refine ⟨S.rh, S.r0, S.h0, S.bb, S.new, fun j x q => ?_, fun j x q => ?_, fun j k x y b hjk q1 q2 q3 q4 => ?_, ln⟩
    · by_cases hj : j = i
      · subst hj
        rw [List.getElem?_set_self hi] at q
        cases q
      · rw [List.getElem?_set_ne (Ne.symm hj)] at q
        rw [List.getElem?_set_ne (Ne.symm hj)]
        exact S.slot j x q
    · by_cases hj : j = i
      · subst hj
        rw [List.getElem?_set_self hi] at q
        cases q
        exact ⟨a, vs, ds, rfl, List.getElem?_set_self hi', h1, h2, h3, h4⟩
      · rw [List.getElem?_set_ne (Ne.symm hj)] at q
        rw [List.getElem?_set_ne (Ne.symm hj)]
        exact S.own j x q
    · by_cases hj : j = i
      · subst hj
        have hk : k ≠ j := Ne.symm hjk
        rw [List.getElem?_set_self hi'] at q3
        rw [List.getElem?_set_ne (Ne.symm hk)] at q2 q4
        cases q3
        exact ap k y q2 q4
      · rw [List.getElem?_set_ne (Ne.symm hj)] at q1 q3
        by_cases hk : k = i
        · subst hk
          rw [List.getElem?_set_self hi'] at q4
          cases q4
          exact ap j x q1 q3
        · rw [List.getElem?_set_ne (Ne.symm hk)] at q2 q4
          exact S.dis j k x y b hjk q1 q2 q3 q4
  · have hi' : σ.length ≤ i := by rw [S.len]; omega
    rw [List.set_eq_of_length_le hi', List.set_eq_of_length_le (by omega)]
    exact S
/-- an owned list is written -/
theorem SRel.writeO {i : Nat} {a : Addr} {d : PyData} {vs : List V} {ds : List PyData} (S : SRel B H0 R0 R H σ env) (h : env[i]? = some (some (d, true))) (hs : σ[i]? = some (some (.ref a))) (h4 : DqAll R vs ds) :
    SRel B H0 R0 R (upd H a (.lst vs)) σ (env.set i (some (.list ds, true))) := by
  obtain ⟨b, ws, es, rfl, z2, z3, z4, z5, z6⟩ := S.own i d h
  rw [hs] at z2
  cases z2
  have hi : i < env.length := (List.getElem?_eq_some_iff.mp h).1
  refine ⟨fun c u q => ?_, S.r0, fun c u q => ?_, S.bb, S.new, fun j x q => ?_, fun j x q => ?_, fun j k x y c hjk q1 q2 q3 q4 => ?_, by rw [List.length_set]; exact S.len⟩
  · rw [upd_ne (ne_of_none q z4)]
    exact S.rh c u q
  · rw [upd_ne (ne_of_none q z5)]
    exact S.h0 c u q
  · by_cases hj : j = i
    · subst hj
      rw [List.getElem?_set_self hi] at q
      cases q
    · rw [List.getElem?_set_ne (Ne.symm hj)] at q
      exact S.slot j x q
  · by_cases hj : j = i
    · subst hj
      rw [List.getElem?_set_self hi] at q
      cases q
      exact ⟨a, vs, ds, rfl, hs, upd_same, z4, z5, h4⟩
    · rw [List.getElem?_set_ne (Ne.symm hj)] at q
      obtain ⟨c, us, fs, y1, y2, y3, y4, y5, y6⟩ := S.own j x q
      have hc : c ≠ a := fun z => S.dis j i x (.list es) a hj q h (by rw [← z]; exact y2) hs
      exact ⟨c, us, fs, y1, y2, by rw [upd_ne hc]; exact y3, y4, y5, y6⟩
  · have old : ∀ (j : Nat) (x : PyData), (env.set i (some (PyData.list ds, true)))[j]? = some (some (x, true)) → ∃ x', env[j]? = some (some (x', true)) := fun j x q => by
      by_cases hj : j = i
      · subst hj
        exact ⟨_, h⟩
      · rw [List.getElem?_set_ne (Ne.symm hj)] at q
        exact ⟨x, q⟩
    obtain ⟨x', q1⟩ := old j x q1
    obtain ⟨y', q2⟩ := old k y q2
    exact S.dis j k x' y' c hjk q1 q2 q3 q4
end
end Fw
namespace Fw
open PySem PySem.Spec PyProof.Rows L2 Evl

def RRes (Hb R H : Hp) (v : V) (d : PyData) : Bool → Prop
  | true => ∃ a vs ds, v = .ref a ∧ d = .list ds ∧ H a = some (.lst vs) ∧ R a = none ∧ Hb a = none ∧ DqAll R vs ds
  | false => Dq R v d
/-- what is wanted behind a pure step that gives d -/
def Cont (R H : Hp) (d : PyData) (fr : Bool) (Q : VK) : Prop :=
  ∀ v R' H', Ex R R' → Ex H H' → Ex R' H' → (∀ b o, R' b = some o → R b = none → H b = none) → RRes H R' H' v d fr → Q v H'
abbrev EF := En → Option (PyData × Bool × En)
abbrev WF := En → Option (PyData × En)
abbrev TF := En → Option (Bool × En)
abbrev AF := En → Option (List PyData × En)

def tE (f : EF) : TE := fun σ H Q => ∃ B H0 R0 R env d fr env', SRel B H0 R0 R H σ env ∧ f env = some (d, fr, env') ∧
  ∀ v R' H', SRel B H0 R0 R' H' σ env' → Ex R R' → Ex H H' → Res H0 R' H' σ env' v d fr → Q v H'
def tW (f : WF) : TE := fun σ H Q => ∃ B H0 R0 R env d env', SRel B H0 R0 R H σ env ∧ f env = some (d, env') ∧
  ∀ v R' H', SRel B H0 R0 R' H' σ env' → Ex R R' → Ex H H' → Top R' H' v d → Q v H'
def tT (f : TF) : TT := fun σ H Q => ∃ B H0 R0 R env b env', SRel B H0 R0 R H σ env ∧ f env = some (b, env') ∧
  ∀ R' H', SRel B H0 R0 R' H' σ env' → Ex R R' → Ex H H' → Q b H'
def tA (f : AF) : TA := fun σ H Q => ∃ B H0 R0 R env ds env', SRel B H0 R0 R H σ env ∧ f env = some (ds, env') ∧
  ∀ vs R' H', SRel B H0 R0 R' H' σ env' → Ex R R' → Ex H H' → DqAll R' vs ds → Q vs H'
inductive TopAll (R H : Hp) : List V → List PyData → Prop
  | nil : TopAll R H [] []
  | cons {v d vs ds} : Top R H v d → TopAll R H vs ds → TopAll R H (v :: vs) (d :: ds)
/-- arguments, borrowed -/
def tB (f : AF) : TA := fun σ H Q => ∃ B H0 R0 R env ds env', SRel B H0 R0 R H σ env ∧ f env = some (ds, env') ∧
  ∀ vs R' H', SRel B H0 R0 R' H' σ env' → Ex R R' → Ex H H' → TopAll R' H' vs ds → Q vs H'

section
variable {B H0 R0 R R' H H' : Hp} {σ : L2.St} {env env' : En} {v : V} {d : PyData} {fr : Bool} {Q : VK}

theorem Cont.now (e : Ex R H) (h : Cont R H d false Q) (p : Dq R v d) : Q v H := h v R H (Ex.refl R) (Ex.refl H) e (fun b o q n => by rw [n] at q; cases q) p
theorem Cont.nowL {p : Addr} {vs : List V} {ds : List PyData} (e : Ex R H) (h : Cont R H (.list ds) true Q) (hp : H p = none) (hd : DqAll R vs ds) : Q (.ref p) (upd H p (.lst vs)) := by
  refine h _ R _ (Ex.refl R) (Ex.new hp) (e.trans (Ex.new hp)) (fun b o q n => by rw [n] at q; cases q) ?_
  exact ⟨p, vs, ds, rfl, rfl, upd_same, fresh_back e hp, hp, hd⟩
theorem Cont.nowT {p : Addr} {vs : List V} {ds : List PyData} (e : Ex R H) (h : Cont R H (.tuple ds) false Q) (hp : H p = none) (hd : DqAll R vs ds) : Q (.ref p) (upd H p (.tup vs)) := by
  have hr : R p = none := fresh_back e hp
  refine h _ (upd R p (.tup vs)) _ (Ex.new hr) (Ex.new hp) (fun b o q => ?_) (fun b o q n => ?_) ?_
  · by_cases hb : b = p
    · subst hb
      rw [upd_same] at q ⊢
      exact q
    · rw [upd_ne hb] at q ⊢
      exact e b o q
  · by_cases hb : b = p
    · subst hb
      exact hp
    · rw [upd_ne hb, n] at q
      cases q
  · exact .tup upd_same (dpa_mono (Ex.new hr) hd)
theorem Res.of (S : SRel B H0 R0 R H σ env) (S' : SRel B H0 R0 R' H' σ env) (h : RRes H R' H' v d fr) : Res H0 R' H' σ env v d fr := by
  cases fr with
  | false => exact h
  | true =>
    obtain ⟨a, vs, ds, e1, e2, h1, h2, h3, h4⟩ := h
    obtain ⟨f1, f2, f3⟩ := S.fresh h3
    exact ⟨a, vs, ds, e1, e2, h1, h2, f2, h4, f3⟩
/-- the end of a rule: what the caller wants is what a pure step is to reach -/
theorem SRel.cont (S : SRel B H0 R0 R H σ env) (h : ∀ v R' H', SRel B H0 R0 R' H' σ env → Ex R R' → Ex H H' → Res H0 R' H' σ env v d fr → Q v H') : Cont R H d fr Q :=
  fun v R' H' e1 e2 e3 n r => h v R' H' (S.growR e2 e1 e3 n) e1 e2 (Res.of S (S.growR e2 e1 e3 n) r)
theorem TopAll.mono (a : Ex R R') (b : Ex H H') : ∀ {vs : List V} {ds : List PyData}, TopAll R H vs ds → TopAll R' H' vs ds
  | _, _, .nil => .nil
  | _, _, .cons p q => .cons (top_mono a b p) (TopAll.mono a b q)
end

section
variable {X : Cx} {a b e : Expr} {pos : Pos} {fa fb : WF} {f : EF}

theorem _root_.L2.PE.imp {t t' : TE} (h : PE X e t) (i : ∀ σ H Q, t' σ H Q → t σ H Q) : PE X e t' := ⟨fun pins s σ H Q I q => h.run pins s σ H Q I (i σ H Q q)⟩
theorem _root_.L2.PT.imp {t t' : TT} (h : PT X e t) (i : ∀ σ H Q, t' σ H Q → t σ H Q) : PT X e t' := ⟨fun pins s σ H Q I q => h.run pins s σ H Q I (i σ H Q q)⟩
theorem _root_.L2.PA.imp {es : List Expr} {t t' : TA} (h : PA X es t) (i : ∀ σ H Q, t' σ H Q → t σ H Q) : PA X es t' := ⟨fun pos pins s σ H Q I q => h.run pos pins s σ H Q I (i σ H Q q)⟩
theorem _root_.L2.PS.imp {st : Stmt} {t t' : TS} (h : PS X st t) (i : ∀ D σ H, t' D σ H → t D σ H) : PS X st t' := ⟨fun pins s σ H D I q => h.run pins s σ H D I (i D σ H q)⟩
theorem _root_.L2.PSs.imp {st : List Stmt} {t t' : TS} (h : PSs X st t) (i : ∀ D σ H, t' D σ H → t D σ H) : PSs X st t' := ⟨fun pins s σ H D I q => h.run pins s σ H D I (i D σ H q)⟩

def wOf (f : EF) : WF := fun env => (f env).map fun r => (r.1, r.2.2)
theorem qw_of (h : PE X e (tE f)) : PE X e (tW (wOf f)) := h.imp fun σ H Q q => by
  obtain ⟨B, H0, R0, R, env, d, env', S, hf, k⟩ := q
  unfold wOf at hf
  cases hq : f env with
  | none => rw [hq] at hf; cases hf
  | some r =>
    obtain ⟨d', fr, e'⟩ := r
    rw [hq] at hf
    cases hf
    exact ⟨B, H0, R0, R, env, _, fr, _, S, hq, fun v R' H' S' e1 e2 r => k v R' H' S' e1 e2 (r.top S')⟩

/-! names, constants -/
def wVar (i : Nat) : WF := fun env => match env[i]? with
  | some (some (d, _)) => (match tokOf d with
    | some ds => some (.list ds, env)
    | none => some (d, env))
  | _ => none
def eVar (i : Nat) : EF := fun env => match env[i]? with
  | some (some (d, o)) => (match tokOf d with
    | some _ => none
    | none => (match o with
      | false => some (d, false, env)
      | true => some (d, false, env.set i (some (d, false)))))
  | _ => none
def eMv (i : Nat) : EF := fun env => match env[i]? with
  | some (some (d, o)) => (match tokOf d with
    | some _ => none
    | none => some (d, o, env.set i none))
  | _ => none
theorem qw_var {x : Str} (i : Nat) (h : PE X (.Name x pos) (tVar i)) : PE X (.Name x pos) (tW (wVar i)) := h.imp fun σ H Q q => by
  obtain ⟨B, H0, R0, R, env, d, env', S, hf, k⟩ := q
  unfold wVar at hf
  split at hf
  · rename_i d' o hq
    split at hf
    · rename_i ds ht
      cases hf
      cases o with
      | false =>
        obtain ⟨v, h1, h2⟩ := S.slot i _ hq
        obtain ⟨a, vs, rfl, h3, h4⟩ := h2.tok ht
        exact ⟨_, h1, k _ R H S (Ex.refl R) (Ex.refl H) (.inl ⟨a, vs, ds, rfl, rfl, ex_rq (S.bb.trans S.h0) h3, h4⟩)⟩
      | true =>
        obtain ⟨a, vs, ds, rfl, h1, h2, h3, h4, h5⟩ := S.own i _ hq
        cases ht
    · rename_i ht
      cases hf
      cases o with
      | false =>
        obtain ⟨v, h1, h2⟩ := S.slot i _ hq
        exact ⟨v, h1, k v R H S (Ex.refl R) (Ex.refl H) (top_of_dp S.rh (h2.dq ht))⟩
      | true =>
        obtain ⟨a, vs, ds, rfl, h1, h2, h3, h4, h5⟩ := S.own i _ hq
        exact ⟨_, h1, k _ R H S (Ex.refl R) (Ex.refl H) (.inl ⟨a, vs, ds, rfl, rfl, h2, h5⟩)⟩
  · cases hf
theorem qe_var {x : Str} (i : Nat) (h : PE X (.Name x pos) (tVar i)) : PE X (.Name x pos) (tE (eVar i)) := h.imp fun σ H Q q => by
  obtain ⟨B, H0, R0, R, env, d, fr, env', S, hf, k⟩ := q
  unfold eVar at hf
  split at hf
  · rename_i d' o hq
    split at hf
    · cases hf
    · rename_i ht
      cases o with
      | false =>
        cases hf
        obtain ⟨v, h1, h2⟩ := S.slot i _ hq
        exact ⟨v, h1, k v R H S (Ex.refl R) (Ex.refl H) (h2.dq ht)⟩
      | true =>
        cases hf
        obtain ⟨R', v, e, S', h1, h2⟩ := S.freeze hq
        exact ⟨v, h1, k v R' H S' e (Ex.refl H) h2⟩
  · cases hf
theorem qe_mv {x : Str} (i : Nat) (h : PE X (.Name x pos) (tVar i)) : PE X (.Name x pos) (tE (eMv i)) := h.imp fun σ H Q q => by
  obtain ⟨B, H0, R0, R, env, d, fr, env', S, hf, k⟩ := q
  unfold eMv at hf
  split at hf
  · rename_i d' o hq
    split at hf
    · cases hf
    · rename_i ht
      cases hf
      have S' := S.forget (i := i)
      have hi : i < env.length := (List.getElem?_eq_some_iff.mp hq).1
      cases fr with
      | false =>
        obtain ⟨v, h1, h2⟩ := S.slot i _ hq
        exact ⟨v, h1, k v R H S' (Ex.refl R) (Ex.refl H) (h2.dq ht)⟩
      | true =>
        obtain ⟨a, vs, ds, rfl, h1, h2, h3, h4, h5⟩ := S.own i _ hq
        refine ⟨_, h1, k _ R H S' (Ex.refl R) (Ex.refl H) ⟨a, vs, ds, rfl, rfl, h2, h3, h4, h5, fun j x q1 q2 => ?_⟩⟩
        by_cases hj : j = i
        · subst hj
          rw [List.getElem?_set_self hi] at q1
          cases q1
        · rw [List.getElem?_set_ne (Ne.symm hj)] at q1
          exact S.dis j i x _ a hj q1 hq q2 h1
  · cases hf
def eC (d : PyData) : EF := fun env => some (d, false, env)
theorem tE_const {v : V} {d : PyData} (hd : ∀ R, Dq R v d) {t : TE} (h : PE X e t) (ht : ∀ σ H Q, Q v H → t σ H Q) : PE X e (tE (eC d)) := h.imp fun σ H Q q => by
  obtain ⟨B, H0, R0, R, env, d', fr, env', S, hf, k⟩ := q
  cases hf
  exact ht σ H Q (k v R H S (Ex.refl R) (Ex.refl H) (hd _))
theorem qe_int {i : Int} {j : Nat} : PE X (.Constant (.int i) j pos) (tE (eC (.int i))) := tE_const (fun _ => .int i) pe_int fun _ _ _ q => q
theorem qe_bl {i : Bool} {j : Nat} : PE X (.Constant (.bool i) j pos) (tE (eC (.bool i))) := tE_const (fun _ => .bl i) pe_bl fun _ _ _ q => q
theorem qe_non {j : Nat} : PE X (.Constant .none j pos) (tE (eC .none)) := tE_const (fun _ => .non) pe_non fun _ _ _ q => q
theorem qe_str {x : Str} {j : Nat} : PE X (.Constant (.str x) j pos) (tE (eC (.str x))) := tE_const (fun _ => .str x) pe_str fun _ _ _ q => q
/-- a module's whole number -/
theorem qe_gint {x : Str} {i : Int} {t : Tok} (hg : Gl X x) (hm : X.mg x = some (.int i t)) (hd : (x == ("__debug__" : Str)) = false := by decide) : PE X (.Name x pos) (tE (eC (.int i))) :=
  tE_const (fun _ => .int i) (pe_glob (v := .int i) hg hm ⟨t, rfl⟩ hd) fun _ _ _ q => q

/-! two-place operations by values -/
def OpD (r : R2) (g : PyData → PyData → Option (PyData × Bool)) : Prop :=
  ∀ (R H : Hp) (x y : V) (dx dy d : PyData) (fr : Bool) (Q : VK), Ex R H → Top R H x dx → Top R H y dy → g dx dy = some (d, fr) → Cont R H d fr Q → r x y H Q
def eBin (g : PyData → PyData → Option (PyData × Bool)) (fa fb : WF) : EF := fun env => match fa env with
  | none => none
  | some (x, e1) => match fb e1 with
    | none => none
    | some (y, e2) => match g x y with
      | none => none
      | some (d, fr) => some (d, fr, e2)
theorem bin_ok {r : R2} {g : PyData → PyData → Option (PyData × Bool)} (hg : OpD r g) {σ : L2.St} {H : Hp} {Q : VK} (q : tE (eBin g fa fb) σ H Q) : tOp r (tW fa) (tW fb) σ H Q := by
  obtain ⟨B, H0, R0, R, env, d, fr, env', S, hf, k⟩ := q
  unfold eBin at hf
  split at hf
  · cases hf
  · rename_i x e1 h1
    split at hf
    · cases hf
    · rename_i y e2 h2
      split at hf
      · cases hf
      · rename_i d' fr' h3
        cases hf
        refine ⟨B, H0, R0, R, env, x, e1, S, h1, fun u R1 H1 S1 i1 j1 t1 => ?_⟩
        refine ⟨B, H0, R0, R1, e1, y, _, S1, h2, fun w R2 H2 S2 i2 j2 t2 => ?_⟩
        refine hg R2 H2 u w x y _ _ Q S2.rh (top_mono i2 j2 t1) t2 h3 (S2.cont fun v R' H' S' e1 e2 r => ?_)
        exact k v R' H' S' ((i1.trans i2).trans e1) ((j1.trans j2).trans e2) r
theorem qe_bin {op : Operator} {r : R2} {g : PyData → PyData → Option (PyData × Bool)} (ho : OpR X (binaryOp op) r) (hg : OpD r g) (ha : PE X a (tW fa)) (hb : PE X b (tW fb)) : PE X (.BinOp a op b pos) (tE (eBin g fa fb)) :=
  (pe_op ho ha hb).imp fun σ H Q q => bin_ok hg q
theorem qe_cmp {op : CmpOp} {r : R2} {g : PyData → PyData → Option (PyData × Bool)} (ho : OpR X (compareOp op) r) (hg : OpD r g) (hm : behindInMarks op b = false) (ha : PE X a (tW fa)) (hb : PE X b (tW fb)) : PE X (.Compare a [op] [b] pos) (tE (eBin g fa fb)) :=
  (pe_cmpR ho ha hb hm).imp fun σ H Q q => bin_ok hg q
theorem qe_ix {r : R2} {g : PyData → PyData → Option (PyData × Bool)} (hr : IxR X r) (hg : OpD r g) (hs : PlainIx b) (ha : PE X a (tW fa)) (hb : PE X b (tW fb)) : PE X (.Subscript a b pos) (tE (eBin g fa fb)) :=
  (pe_ix hr ha hb hs).imp fun σ H Q q => bin_ok hg q
/-! tests -/
def tstE (f : EF) : TF := fun env => match f env with
  | some (.bool b, _, e1) => some (b, e1)
  | _ => none
theorem tst_ok {σ : L2.St} {H : Hp} {Q : Bool → Hp → Prop} (q : tT (tstE f) σ H Q) : tE f σ H fun x H' => ∃ k, x = .bl k ∧ Q k H' := by
  obtain ⟨B, H0, R0, R, env, b, env', S, hf, k⟩ := q
  unfold tstE at hf
  split at hf
  · rename_i b' fr e1 h1
    cases hf
    refine ⟨B, H0, R0, R, env, .bool b, fr, env', S, h1, fun v R' H' S' e1 e2 r => ?_⟩
    exact ⟨b, top_bl (r.top S'), k R' H' S' e1 e2⟩
  · cases hf
theorem qt_cmp {op : CmpOp} {r : R2} {g : PyData → PyData → Option (PyData × Bool)} (ho : OpR X (compareOp op) r) (hg : OpD r g) (hm : behindInMarks op b = false) (ha : PE X a (tW fa)) (hb : PE X b (tW fb)) : PT X (.Compare a [op] [b] pos) (tT (tstE (eBin g fa fb))) :=
  (pt_cmpR ho ha hb hm).imp fun σ H Q q => bin_ok hg (tst_ok q)
theorem qt_val (h : PE X e (tE f)) (he : ∀ whole, isTrue e X.env whole = (do let v ← whole; standAt e.pos; holding [v] (truthy v)) := by intro _; rfl) : PT X e (tT (tstE f)) :=
  (pt_val h he).imp fun σ H Q q => tst_ok q
def cAnd (f g : TF) : TF := fun env => match f env with
  | none => none
  | some (true, e1) => g e1
  | some (false, e1) => some (false, e1)
def cOr (f g : TF) : TF := fun env => match f env with
  | none => none
  | some (true, e1) => some (true, e1)
  | some (false, e1) => g e1
def cNot (f : TF) : TF := fun env => match f env with
  | none => none
  | some (b, e1) => some (!b, e1)
variable {f1 f2 : TF} {rest : List Expr}
theorem _root_.L2.PW.imp {t t' : TT} (h : PW X e t) (i : ∀ σ H Q, t' σ H Q → t σ H Q) : PW X e t' := ⟨fun wh pins s σ H Q I q => h.run wh pins s σ H Q I (i σ H Q q)⟩
theorem qp_and1 (h : PT X a (tT f1)) : PW X (.BoolOp .And [a] pos) (tT f1) := pw_and1 h
theorem qp_or1 (h : PT X a (tT f1)) : PW X (.BoolOp .Or [a] pos) (tT f1) := pw_or1 h
theorem qp_and (h : PT X a (tT f1)) (h2 : PW X (.BoolOp .And (b :: rest) pos) (tT f2)) : PW X (.BoolOp .And (a :: b :: rest) pos) (tT (cAnd f1 f2)) :=
  PW.imp (pw_and h h2) fun σ H Q q => by
    obtain ⟨B, H0, R0, R, env, c, env', S, hf, k⟩ := q
    unfold cAnd at hf
    split at hf
    · cases hf
    · rename_i e1 h1
      refine ⟨B, H0, R0, R, env, true, e1, S, h1, fun R1 H1 S1 i1 j1 => ?_⟩
      refine iteT ?_
      exact ⟨B, H0, R0, R1, e1, c, env', S1, hf, fun R2 H2 S2 i2 j2 => k R2 H2 S2 (i1.trans i2) (j1.trans j2)⟩
    · rename_i e1 h1
      cases hf
      refine ⟨B, H0, R0, R, env, false, _, S, h1, fun R1 H1 S1 i1 j1 => ?_⟩
      refine iteF ?_
      exact k R1 H1 S1 i1 j1
theorem qp_or (h : PT X a (tT f1)) (h2 : PW X (.BoolOp .Or (b :: rest) pos) (tT f2)) : PW X (.BoolOp .Or (a :: b :: rest) pos) (tT (cOr f1 f2)) :=
  PW.imp (pw_or h h2) fun σ H Q q => by
    obtain ⟨B, H0, R0, R, env, c, env', S, hf, k⟩ := q
    unfold cOr at hf
    split at hf
    · cases hf
    · rename_i e1 h1
      cases hf
      refine ⟨B, H0, R0, R, env, true, _, S, h1, fun R1 H1 S1 i1 j1 => ?_⟩
      refine iteT ?_
      exact k R1 H1 S1 i1 j1
    · rename_i e1 h1
      refine ⟨B, H0, R0, R, env, false, e1, S, h1, fun R1 H1 S1 i1 j1 => ?_⟩
      refine iteF ?_
      exact ⟨B, H0, R0, R1, e1, c, env', S1, hf, fun R2 H2 S2 i2 j2 => k R2 H2 S2 (i1.trans i2) (j1.trans j2)⟩
theorem qt_pw (h : PW X e (tT f1)) : PT X e (tT f1) := h.pt
theorem qt_not (h : PT X a (tT f1)) : PT X (.UnaryOp .Not a pos) (tT (cNot f1)) := (pt_not h).imp fun σ H Q q => by
  obtain ⟨B, H0, R0, R, env, c, env', S, hf, k⟩ := q
  unfold cNot at hf
  split at hf
  · cases hf
  · rename_i b e1 h1
    cases hf
    exact ⟨B, H0, R0, R, env, b, _, S, h1, fun R1 H1 S1 i1 j1 => k R1 H1 S1 i1 j1⟩
/-! .. as values -/
def eNot (f : EF) : EF := fun env => match f env with
  | some (.bool b, _, e1) => some (.bool (!b), false, e1)
  | _ => none
def eAnd (f g : EF) : EF := fun env => match f env with
  | some (.bool true, _, e1) => g e1
  | some (.bool false, _, e1) => some (.bool false, false, e1)
  | _ => none
def eOr (f g : EF) : EF := fun env => match f env with
  | some (.bool true, _, e1) => some (.bool true, false, e1)
  | some (.bool false, _, e1) => g e1
  | _ => none
variable {g : EF}
theorem qe_one {op} (h : PE X a (tE f)) : PE X (.BoolOp op [a] pos) (tE f) := pe_one h
theorem qe_and (h : PE X a (tE f)) (h2 : PE X (.BoolOp .And (b :: rest) pos) (tE g)) : PE X (.BoolOp .And (a :: b :: rest) pos) (tE (eAnd f g)) :=
  PE.imp (pe_and h h2) fun σ H Q q => by
    obtain ⟨B, H0, R0, R, env, d, fr, env', S, hf, k⟩ := q
    unfold eAnd at hf
    split at hf
    · rename_i fr' e1 h1
      refine ⟨B, H0, R0, R, env, .bool true, fr', e1, S, h1, fun x R1 H1 S1 i1 j1 r1 => ⟨true, top_bl (r1.top S1), ?_⟩⟩
      refine iteT ?_
      exact ⟨B, H0, R0, R1, e1, d, fr, env', S1, hf, fun v R2 H2 S2 i2 j2 r2 => k v R2 H2 S2 (i1.trans i2) (j1.trans j2) r2⟩
    · rename_i fr' e1 h1
      cases hf
      refine ⟨B, H0, R0, R, env, .bool false, fr', _, S, h1, fun x R1 H1 S1 i1 j1 r1 => ⟨false, top_bl (r1.top S1), ?_⟩⟩
      refine iteF ?_
      exact k _ R1 H1 S1 i1 j1 (.bl false)
    · cases hf
theorem qe_or (h : PE X a (tE f)) (h2 : PE X (.BoolOp .Or (b :: rest) pos) (tE g)) : PE X (.BoolOp .Or (a :: b :: rest) pos) (tE (eOr f g)) :=
  PE.imp (pe_or h h2) fun σ H Q q => by
    obtain ⟨B, H0, R0, R, env, d, fr, env', S, hf, k⟩ := q
    unfold eOr at hf
    split at hf
    · rename_i fr' e1 h1
      cases hf
      refine ⟨B, H0, R0, R, env, .bool true, fr', _, S, h1, fun x R1 H1 S1 i1 j1 r1 => ⟨true, top_bl (r1.top S1), ?_⟩⟩
      refine iteT ?_
      exact k _ R1 H1 S1 i1 j1 (.bl true)
    · rename_i fr' e1 h1
      refine ⟨B, H0, R0, R, env, .bool false, fr', e1, S, h1, fun x R1 H1 S1 i1 j1 r1 => ⟨false, top_bl (r1.top S1), ?_⟩⟩
      refine iteF ?_
      exact ⟨B, H0, R0, R1, e1, d, fr, env', S1, hf, fun v R2 H2 S2 i2 j2 r2 => k v R2 H2 S2 (i1.trans i2) (j1.trans j2) r2⟩
    · cases hf
theorem qe_not (h : PE X a (tE f)) : PE X (.UnaryOp .Not a pos) (tE (eNot f)) := PE.imp (pe_not h) fun σ H Q q => by
  obtain ⟨B, H0, R0, R, env, d, fr, env', S, hf, k⟩ := q
  unfold eNot at hf
  split at hf
  · rename_i b fr' e1 h1
    cases hf
    exact ⟨B, H0, R0, R, env, .bool b, fr', _, S, h1, fun x R1 H1 S1 i1 j1 r1 => ⟨b, top_bl (r1.top S1), k _ R1 H1 S1 i1 j1 (.bl _)⟩⟩
  · cases hf
def eIf (c : TF) (f g : EF) : EF := fun env => match c env with
  | none => none
  | some (true, e1) => f e1
  | some (false, e1) => g e1
theorem qe_if {c : Expr} (hc : PT X c (tT f1)) (ha : PE X a (tE f)) (hb : PE X b (tE g)) : PE X (.IfExp c a b pos) (tE (eIf f1 f g)) :=
  PE.imp (pe_ifExp hc ha hb) fun σ H Q q => by
    obtain ⟨B, H0, R0, R, env, d, fr, env', S, hf, k⟩ := q
    unfold eIf at hf
    split at hf
    · cases hf
    · rename_i e1 h1
      refine ⟨B, H0, R0, R, env, true, e1, S, h1, fun R1 H1 S1 i1 j1 => ?_⟩
      refine iteT ?_
      exact ⟨B, H0, R0, R1, e1, d, fr, env', S1, hf, fun v R2 H2 S2 i2 j2 r2 => k v R2 H2 S2 (i1.trans i2) (j1.trans j2) r2⟩
    · rename_i e1 h1
      refine ⟨B, H0, R0, R, env, false, e1, S, h1, fun R1 H1 S1 i1 j1 => ?_⟩
      refine iteF ?_
      exact ⟨B, H0, R0, R1, e1, d, fr, env', S1, hf, fun v R2 H2 S2 i2 j2 r2 => k v R2 H2 S2 (i1.trans i2) (j1.trans j2) r2⟩
/-! a chain of two comparisons -/
def eChain (g1 g2 : PyData → PyData → Option (PyData × Bool)) (fa fb fc : WF) : EF := fun env => match fa env with
  | none => none
  | some (x, e1) => match fb e1 with
    | none => none
    | some (y, e2) => match g1 x y with
      | some (.bool true, false) => (match fc e2 with
        | none => none
        | some (z, e3) => match g2 y z with
          | some (.bool b, false) => some (.bool b, false, e3)
          | _ => none)
      | some (.bool false, false) => some (.bool false, false, e2)
      | _ => none

/-! argument lists -/
def aNil : AF := fun env => some ([], env)
def aCons (f : EF) (g : AF) : AF := fun env => match f env with
  | none => none
  | some (d, _, e1) => match g e1 with
    | none => none
    | some (ds, e2) => some (d :: ds, e2)
def bCons (f : WF) (g : AF) : AF := fun env => match f env with
  | none => none
  | some (d, e1) => match g e1 with
    | none => none
    | some (ds, e2) => some (d :: ds, e2)
variable {ga : AF} {es : List Expr}
theorem qa_nil : PA X [] (tA aNil) := PA.imp pa_nil fun σ H Q q => by
  obtain ⟨B, H0, R0, R, env, ds, env', S, hf, k⟩ := q
  cases hf
  exact k [] R H S (Ex.refl R) (Ex.refl H) .nil
theorem qa_cons (h : PE X e (tE f)) (hr : PA X es (tA ga)) (hs : starEach (e :: es) X.env = (false, eval e X.env) :: starEach es X.env := by rfl) : PA X (e :: es) (tA (aCons f ga)) :=
  PA.imp (pa_cons h hr hs) fun σ H Q q => by
    obtain ⟨B, H0, R0, R, env, ds, env', S, hf, k⟩ := q
    unfold aCons at hf
    split at hf
    · cases hf
    · rename_i d fr e1 h1
      split at hf
      · cases hf
      · rename_i ds' e2 h2
        cases hf
        refine ⟨B, H0, R0, R, env, d, fr, e1, S, h1, fun v R1 H1 S1 i1 j1 r1 => ?_⟩
        obtain ⟨R2, i2, S2, hd⟩ := r1.share S1
        exact ⟨B, H0, R0, R2, e1, ds', _, S2, h2, fun vs R3 H3 S3 i3 j3 r3 => k (v :: vs) R3 H3 S3 ((i1.trans i2).trans i3) (j1.trans j3) (.cons (dp_mono i3 hd) r3)⟩
theorem qb_nil : PA X [] (tB aNil) := PA.imp pa_nil fun σ H Q q => by
  obtain ⟨B, H0, R0, R, env, ds, env', S, hf, k⟩ := q
  cases hf
  exact k [] R H S (Ex.refl R) (Ex.refl H) .nil
theorem qb_cons (h : PE X e (tW fa)) (hr : PA X es (tB ga)) (hs : starEach (e :: es) X.env = (false, eval e X.env) :: starEach es X.env := by rfl) : PA X (e :: es) (tB (bCons fa ga)) :=
  PA.imp (pa_cons h hr hs) fun σ H Q q => by
    obtain ⟨B, H0, R0, R, env, ds, env', S, hf, k⟩ := q
    unfold bCons at hf
    split at hf
    · cases hf
    · rename_i d e1 h1
      split at hf
      · cases hf
      · rename_i ds' e2 h2
        cases hf
        refine ⟨B, H0, R0, R, env, d, e1, S, h1, fun v R1 H1 S1 i1 j1 r1 => ?_⟩
        exact ⟨B, H0, R0, R1, e1, ds', _, S1, h2, fun vs R3 H3 S3 i3 j3 r3 => k (v :: vs) R3 H3 S3 (i1.trans i3) (j1.trans j3) (.cons (top_mono i3 j3 r1) r3)⟩
/-! displays -/
def eLst (g : AF) : EF := fun env => match g env with
  | none => none
  | some (ds, e1) => if ds.length ≤ 1000 then some (.list ds, true, e1) else none
def eTup (g : AF) : EF := fun env => match g env with
  | none => none
  | some (ds, e1) => if ds.length ≤ 1000 then some (.tuple ds, false, e1) else none
theorem sz1000 {n : Nat} (h : n ≤ 1000) : n ≤ sizeLine := Nat.le_trans h (by decide)
theorem qe_lst (h : PA X es (tA ga)) : PE X (.List es pos) (tE (eLst ga)) := PE.imp (pe_lst h) fun σ H Q q => by
  obtain ⟨B, H0, R0, R, env, d, fr, env', S, hf, k⟩ := q
  unfold eLst at hf
  split at hf
  · cases hf
  · rename_i ds e1 h1
    split at hf
    · rename_i hz
      cases hf
      refine ⟨B, H0, R0, R, env, ds, _, S, h1, fun vs R1 H1 S1 i1 j1 r1 => ⟨by rw [dpa_len r1]; exact sz1000 hz, fun p hp => ?_⟩⟩
      exact Cont.nowL S1.rh (S1.cont fun v R' H' S' e1 e2 r => k v R' H' S' (i1.trans e1) (j1.trans e2) r) hp r1
    · cases hf
theorem qe_tup {x1} (h : PA X es (tA ga)) : PE X (.Tuple es x1 pos) (tE (eTup ga)) := PE.imp (pe_tup h) fun σ H Q q => by
  obtain ⟨B, H0, R0, R, env, d, fr, env', S, hf, k⟩ := q
  unfold eTup at hf
  split at hf
  · cases hf
  · rename_i ds e1 h1
    split at hf
    · rename_i hz
      cases hf
      refine ⟨B, H0, R0, R, env, ds, _, S, h1, fun vs R1 H1 S1 i1 j1 r1 => ⟨by rw [dpa_len r1]; exact sz1000 hz, fun p hp => ?_⟩⟩
      exact Cont.nowT S1.rh (S1.cont fun v R' H' S' e1 e2 r => k v R' H' S' (i1.trans e1) (j1.trans e2) r) hp r1
    · cases hf
/-! calls of built-ins by values -/
def CallD (r : List V → Hp → VK → Prop) (g : List PyData → Option (PyData × Bool)) : Prop :=
  ∀ (R H : Hp) (vs : List V) (ds : List PyData) (d : PyData) (fr : Bool) (Q : VK), Ex R H → TopAll R H vs ds → g ds = some (d, fr) → Cont R H d fr Q → r vs H Q
def eCallB (g : List PyData → Option (PyData × Bool)) (fa : AF) : EF := fun env => match fa env with
  | none => none
  | some (ds, e1) => match g ds with
    | none => none
    | some (d, fr) => some (d, fr, e1)
variable {x : Str} {p : Pos} {id T : String} {r : List V → Hp → VK → Prop} {gc : List PyData → Option (PyData × Bool)}
theorem callB_ok (hg : CallD r gc) {σ : L2.St} {H : Hp} {Q : VK} (q : tE (eCallB gc ga) σ H Q) : tCB r (tB ga) σ H Q := by
  obtain ⟨B, H0, R0, R, env, d, fr, env', S, hf, k⟩ := q
  unfold eCallB at hf
  split at hf
  · cases hf
  · rename_i ds e1 h1
    split at hf
    · cases hf
    · rename_i d' fr' h2
      cases hf
      refine ⟨B, H0, R0, R, env, ds, _, S, h1, fun vs R1 H1 S1 i1 j1 r1 => ?_⟩
      exact hg R1 H1 vs ds _ _ Q S1.rh r1 h2 (S1.cont fun v R' H' S' e1 e2 r => k v R' H' S' (i1.trans e1) (j1.trans e2) r)
theorem qe_callB (hc : CallR X (.builtin id) r) (hg : CallD r gc) (hgl : Gl X x) (hm : X.mg x = none) (hv : bootBuiltins x = some (.builtin id)) (ha : PA X (e :: es) (tB ga)) (hn : x ≠ "__name__" := by decide) (hdb : (x == ("__debug__" : Str)) = false := by decide)
    (he : starEach (e :: es) X.env = (false, eval e X.env) :: starEach es X.env := by rfl) (hpl : (backTo pos (starEach es X.env)).any (·.1) = false := by rfl) :
    PE X (.Call (.Name x p) (e :: es) [] pos) (tE (eCallB gc ga)) := PE.imp (pe_callB hc hgl hm hv ha hn hdb he hpl) fun σ H Q q => callB_ok hg q
theorem qe_callTy (hc : CallR X (.type T) r) (hg : CallD r gc) (hgl : Gl X x) (hm : X.mg x = none) (hv : bootBuiltins x = some (.type T)) (ha : PA X (e :: es) (tB ga)) (hn : x ≠ "__name__" := by decide) (hdb : (x == ("__debug__" : Str)) = false := by decide)
    (he : starEach (e :: es) X.env = (false, eval e X.env) :: starEach es X.env := by rfl) (hpl : (backTo pos (starEach es X.env)).any (·.1) = false := by rfl) :
    PE X (.Call (.Name x p) (e :: es) [] pos) (tE (eCallB gc ga)) := PE.imp (pe_callTy hc hgl hm hv ha hn hdb he hpl) fun σ H Q q => callB_ok hg q
end
end Fw
namespace Fw
open PySem PySem.Spec PyProof.Rows L2 Evl

section
variable {X : Cx}
theorem Inv.lstR {pins : List (Addr × Obj)} {σ : L2.St} {H : Hp} {s : Shared} {l : Addr} {xs : List V} (I : Inv X pins σ H s) (hH : Rq H l (.lst xs)) : xs.length ≤ sizeLine ∧ ∃ (its : List Value) (n : Nat), Vals xs its ∧ xs.length = its.length ∧ s.heap.get? l = some { cls := .type "list", data := .seq its.toArray n } := by
  obtain ⟨z, its, n, r, e⟩ := I.hok _ _ hH
  exact ⟨z, its, n, r, r.length, e⟩
def rCatQ : R2 := fun x y H Q => ∃ l b xs zs, x = .ref l ∧ y = .ref b ∧ Rq H l (.lst xs) ∧ Rq H b (.lst zs) ∧ xs.length + zs.length ≤ sizeLine ∧ ∀ p, H p = none → Q (.ref p) (upd H p (.lst (xs ++ zs)))
theorem op_catQ : OpR X (binaryOp .Add) rCatQ := by
  intro pins s σ H x y v u Q I rx ry h
  obtain ⟨l, b, xs, zs, rfl, rfl, hH, hB, hz, q⟩ := h
  cases rx
  cases ry
  obtain ⟨z, its, n, r, hl, e⟩ := Inv.lstR I hH
  obtain ⟨z2, its2, n2, r2, hl2, e2⟩ := Inv.lstR I hB
  refine PySem.P.add_list e e2 ?_ (by rw [List.size_toArray, List.size_toArray]; omega)
  have ea : its.toArray ++ its2.toArray = (its ++ its2).toArray := by simp
  rw [ea]
  exact ⟨.ref _, _, I.lnew (t' := s.toks) (r.append r2) (by rw [List.length_append]; omega), rfl, q _ I.fresh⟩
def rRepQ : R2 := fun x y H Q => ∃ l k xs, x = .ref l ∧ y = .int k ∧ Rq H l (.lst xs) ∧ -(2 ^ 63) ≤ k ∧ k < 2 ^ 63 ∧ xs.length * k.toNat ≤ sizeLine ∧
  ∀ p, H p = none → Q (.ref p) (upd H p (.lst (List.replicate k.toNat xs).flatten))
theorem op_repQ : OpR X (binaryOp .Mult) rRepQ := by
  intro pins s σ H x y v u Q I rx ry h
  obtain ⟨l, k, xs, rfl, rfl, hH, h1, h2, hz, q⟩ := h
  cases rx
  obtain ⟨t, rfl⟩ := ry
  obtain ⟨z, its, n, r, hl, e⟩ := Inv.lstR I hH
  have hlen : its.toArray.size * k.toNat ≤ sizeLine := by rw [List.size_toArray, ← hl]; exact hz
  have hcap : ¬ its.toArray.size * k.toNat > (2 ^ 63 - 1) / 8 := by
    have : (sizeLine : Nat) ≤ (2 ^ 63 - 1) / 8 := by decide
    omega
  have hfit : ¬ (!Builtin.List.listFitsIndex k) = true := by
    rw [fitsIndex_both h1 h2]
    exact Bool.false_ne_true
  have hlong : ¬ Builtin.List.listTooLong (its.toArray.size * k.toNat) = true := by
    rw [notLongL hlen]
    exact Bool.false_ne_true
  have hnew : List.foldl (fun x1 x2 => x1 ++ x2) #[] (List.replicate (if its.toArray.isEmpty = true then 0 else k.toNat) its.toArray) = (List.replicate k.toNat its).flatten.toArray := by
    have f0 : ∀ m : Nat, List.foldl (fun x1 x2 => x1 ++ x2) #[] (List.replicate m its.toArray) = (List.replicate m its).flatten.toArray := fun m => by
      have := foldl_rep its m []
      rw [List.nil_append] at this
      exact this
    rw [f0]
    cases its with
    | nil => simp
    | cons a r' => rw [if_neg (by simp)]
  refine wpAny_binaryOp_repeat_ref (T := "list") (U := "int") (by decide) ⟨_, e, rfl⟩ (fun s' => typeIs_int s' k t) noFill_list_mul F.fills_int_mul F.slot_int_rmul repeat_list F.slot_int_index.lookup
    (call_meets F.slot_int_rmul (typeIs_int s k t) F.entry_int_rmul (F.args_int_rmul_2 _ _) (int___rmul___int_list k t l its.toArray n)
      ⟨e, rfl, ⟨_, e, rfl⟩, call_meets F.slot_list_mul ⟨_, e, rfl⟩ F.entry_list_mul (F.args_list_mul_2 _ _) (AutoListH.list___mul___list_int_3 l its.toArray n k t hfit hcap hlong) ⟨e, ?_⟩⟩)
  rw [hnew]
  exact ⟨.ref _, _, I.lnew (t' := s.toks) (r.rep k.toNat) (by rw [PyProof.Rows.lm_len_rep_flat, Nat.mul_comm]; exact hz), rfl, q _ I.fresh⟩
end

/-! the operators on data -/
section
variable {K : PySem.W.Frag} {X : Cx}
def gAdd : PyData → PyData → Option (PyData × Bool)
  | .int i, .int j => some (.int (i + j), false)
  | .list a, .list b => if a.length + b.length ≤ 1000 then some (.list (a ++ b), true) else none
  | .tuple a, .tuple b => if a.length + b.length ≤ 1000 then some (.tuple (a ++ b), false) else none
  | _, _ => none
def rAddQ (K : PySem.W.Frag) : R2 := fun x y H Q => ((rI0 fun i j => .int (i + j)) x y H Q ∨ rCatQ x y H Q) ∨ rCatA K x y H Q
theorem op_addQ : OpR X (binaryOp .Add) (rAddQ X.K) := (op_add.or op_catQ).or op_catA
theorem gAdd_ok : OpD (rAddQ K) gAdd := by
  intro R H x y dx dy d fr Q e tx ty hg k
  unfold gAdd at hg
  split at hg
  · cases hg
    have e1 := top_int tx
    have e2 := top_int ty
    subst e1 e2
    exact .inl (.inl ⟨_, _, rfl, rfl, k.now e (.int _)⟩)
  · split at hg
    · rename_i hz
      cases hg
      obtain ⟨a, vs, rfl, h1, h2⟩ := top_list tx
      obtain ⟨b, ws, rfl, h3, h4⟩ := top_list ty
      refine .inl (.inr ⟨a, b, vs, ws, rfl, rfl, h1, h3, by rw [dpa_len h2, dpa_len h4]; exact sz1000 hz, fun p hp => k.nowL e hp (dpa_app h2 h4)⟩)
    · cases hg
  · split at hg
    · rename_i hz
      cases hg
      obtain ⟨a, vs, rfl, h1, h2⟩ := top_tup e tx
      obtain ⟨b, ws, rfl, h3, h4⟩ := top_tup e ty
      refine .inr ⟨a, b, vs, ws, rfl, rfl, .inl (.inl (ex_rq e h1)), .inl (.inl (ex_rq e h3)), by rw [dpa_len h2, dpa_len h4]; exact sz1000 hz, fun z => ?_, fun _ z => ?_, fun _ _ p hp => k.nowT e hp (dpa_app h2 h4)⟩
      · subst z
        have h5 := dpa_len h2
        have h6 := List.length_eq_zero_iff.mp h5.symm
        subst h6
        exact k.now e (.tup h3 h4)
      · subst z
        have h5 := dpa_len h4
        have h6 := List.length_eq_zero_iff.mp h5.symm
        subst h6
        rw [List.append_nil] at k
        exact k.now e (.tup h1 h2)
    · cases hg
  · cases hg
def gSub : PyData → PyData → Option (PyData × Bool)
  | .int i, .int j => some (.int (i - j), false)
  | _, _ => none
theorem gI0_ok {g : Int → Int → Int} {gd : PyData → PyData → Option (PyData × Bool)} (h : ∀ dx dy r, gd dx dy = some r → ∃ i j, dx = .int i ∧ dy = .int j ∧ r = (.int (g i j), false)) : OpD (rI0 fun i j => .int (g i j)) gd := by
  intro R H x y dx dy d fr Q e tx ty hg k
  obtain ⟨i, j, rfl, rfl, e1⟩ := h dx dy _ hg
  cases e1
  have e1 := top_int tx
  have e2 := top_int ty
  subst e1 e2
  exact ⟨_, _, rfl, rfl, k.now e (.int _)⟩
theorem gSub_ok : OpD (rI0 fun i j => .int (i - j)) gSub := gI0_ok fun dx dy r h => by
  unfold gSub at h
  split at h
  · cases h
    exact ⟨_, _, rfl, rfl, rfl⟩
  · cases h
/-- products: one factor small, or both not too great -/
def gMul : PyData → PyData → Option (PyData × Bool)
  | .int i, .int j => if (-(2 ^ 64) < i ∧ i < 2 ^ 64) ∨ (-(2 ^ 64) < j ∧ j < 2 ^ 64) then some (.int (i * j), false) else none
  | .list a, .int k => if -(2 ^ 63) ≤ k ∧ k < 2 ^ 63 ∧ a.length * k.toNat ≤ 1000 then some (.list (List.replicate k.toNat a).flatten, true) else none
  | _, _ => none
def rMulQ : R2 := fun x y H Q => (rI CMul fun i j => .int (i * j)) x y H Q ∨ rRepQ x y H Q
theorem op_mulQ : OpR X (binaryOp .Mult) rMulQ := op_mul.or op_repQ
theorem gMul_ok : OpD rMulQ gMul := by
  intro R H x y dx dy d fr Q e tx ty hg k
  unfold gMul at hg
  split at hg
  · split at hg
    · rename_i hz
      cases hg
      have e1 := top_int tx
      have e2 := top_int ty
      subst e1 e2
      exact .inl ⟨_, _, rfl, rfl, hz, k.now e (.int _)⟩
    · cases hg
  · split at hg
    · rename_i hz
      cases hg
      obtain ⟨a, vs, rfl, h1, h2⟩ := top_list tx
      have e2 := top_int ty
      subst e2
      refine .inr ⟨a, _, vs, rfl, rfl, h1, hz.1, hz.2.1, by rw [dpa_len h2]; exact sz1000 hz.2.2, fun p hp => k.nowL e hp (dpa_rep h2 _)⟩
    · cases hg
  · cases hg
/-- // by a positive divisor below 2^30, % by a positive one -/
def gDiv : PyData → PyData → Option (PyData × Bool)
  | .int i, .int j => if 0 < j ∧ j < 1073741824 then some (.int (i / j), false) else none
  | _, _ => none
def gMod : PyData → PyData → Option (PyData × Bool)
  | .int i, .int j => if 0 < j then some (.int (i % j), false) else none
  | _, _ => none
def gPow : PyData → PyData → Option (PyData × Bool)
  | .int i, .int j => if 0 ≤ j ∧ j ≤ 1000 ∧ i.natAbs < 2 ^ 64 then some (.int (i ^ j.toNat), false) else none
  | _, _ => none
theorem gI_ok {C : Int → Int → Prop} {g : Int → Int → Int} {gd : PyData → PyData → Option (PyData × Bool)} (h : ∀ dx dy r, gd dx dy = some r → ∃ i j, dx = .int i ∧ dy = .int j ∧ C i j ∧ r = (.int (g i j), false)) : OpD (rI C fun i j => .int (g i j)) gd := by
  intro R H x y dx dy d fr Q e tx ty hg k
  obtain ⟨i, j, rfl, rfl, c, e1⟩ := h dx dy _ hg
  cases e1
  have e1 := top_int tx
  have e2 := top_int ty
  subst e1 e2
  exact ⟨_, _, rfl, rfl, c, k.now e (.int _)⟩
theorem gDiv_ok : OpD (rI CDiv fun i j => .int (i / j)) gDiv := gI_ok fun dx dy r h => by
  unfold gDiv at h
  split at h
  · split at h
    · rename_i hz
      cases h
      exact ⟨_, _, rfl, rfl, hz, rfl⟩
    · cases h
  · cases h
theorem gMod_ok : OpD (rI (fun _ j => 0 < j) fun i j => .int (i % j)) gMod := gI_ok fun dx dy r h => by
  unfold gMod at h
  split at h
  · split at h
    · rename_i hz
      cases h
      exact ⟨_, _, rfl, rfl, hz, rfl⟩
    · cases h
  · cases h
theorem gPow_ok : OpD (rI CPow fun i j => .int (i ^ j.toNat)) gPow := gI_ok fun dx dy r h => by
  unfold gPow at h
  split at h
  · split at h
    · rename_i hz
      cases h
      exact ⟨_, _, rfl, rfl, ⟨hz.1, by omega, hz.2.2⟩, rfl⟩
    · cases h
  · cases h
/-! comparisons -/
def gCmp (p : Int → Int → Bool) : PyData → PyData → Option (PyData × Bool)
  | .int i, .int j => some (.bool (p i j), false)
  | _, _ => none
theorem gCmp_ok (p : Int → Int → Bool) : OpD (rI0 fun i j => .bl (p i j)) (gCmp p) := by
  intro R H x y dx dy d fr Q e tx ty hg k
  unfold gCmp at hg
  split at hg
  · cases hg
    have e1 := top_int tx
    have e2 := top_int ty
    subst e1 e2
    exact ⟨_, _, rfl, rfl, k.now e (.bl _)⟩
  · cases hg
def eqD (x y : PyData) : Option Bool := match x, y with
  | .int i, .int j => some (decide (i = j))
  | x, y => if SeqAt.shaped x && SeqAt.shaped y then some (PyData.eqv x y) else none
def gEq (x y : PyData) : Option (PyData × Bool) := (eqD x y).map fun b => (.bool b, false)
def gNe (x y : PyData) : Option (PyData × Bool) := (eqD x y).map fun b => (.bool (!b), false)
def rEqQ (K : PySem.W.Frag) : R2 := fun x y H Q => rEq x y H Q ∨ rEqD K x y H Q
def rNeQ (K : PySem.W.Frag) : R2 := fun x y H Q => rNe x y H Q ∨ rNeD K x y H Q
theorem op_eqQ (hu : X.A.units + 64 < cLine) : OpR X (compareOp .Eq) (rEqQ X.K) := op_eq.or (op_eqD hu)
theorem op_neQ (hu : X.A.units + 64 < cLine) : OpR X (compareOp .NotEq) (rNeQ X.K) := op_ne.or (op_neD hu)
theorem dec_ints (i j : Int) : decide (V.int i = V.int j) = decide (i = j) := by
  rw [dec_int]
  exact (Bool.beq_eq_decide_eq i j)
theorem gEq_ok : OpD (rEqQ K) gEq := by
  intro R H x y dx dy d fr Q e tx ty hg k
  unfold gEq eqD at hg
  split at hg
  · cases hg
    have e1 := top_int tx
    have e2 := top_int ty
    subst e1 e2
    refine .inl ⟨rfl, ?_⟩
    rw [dec_ints]
    exact k.now e (.bl _)
  · split at hg
    · rename_i hz
      cases hg
      rw [Bool.and_eq_true] at hz
      exact .inr ⟨dx, dy, dq_dp (SeqAt.canLay_of_shaped hz.1) (top_dp e tx), dq_dp (SeqAt.canLay_of_shaped hz.2) (top_dp e ty), hz.1, hz.2, k.now e (.bl _)⟩
    · cases hg
theorem gNe_ok : OpD (rNeQ K) gNe := by
  intro R H x y dx dy d fr Q e tx ty hg k
  unfold gNe eqD at hg
  split at hg
  · cases hg
    have e1 := top_int tx
    have e2 := top_int ty
    subst e1 e2
    refine .inl ⟨rfl, ?_⟩
    rw [dec_ints]
    exact k.now e (.bl _)
  · split at hg
    · rename_i hz
      cases hg
      rw [Bool.and_eq_true] at hz
      exact .inr ⟨dx, dy, dq_dp (SeqAt.canLay_of_shaped hz.1) (top_dp e tx), dq_dp (SeqAt.canLay_of_shaped hz.2) (top_dp e ty), hz.1, hz.2, k.now e (.bl _)⟩
    · cases hg
/-- is None -/
def isN : PyData → Bool
  | .none => true
  | _ => false
def gIsN (neg : Bool) (x y : PyData) : Option (PyData × Bool) := match y with
  | .none => some (.bool (if neg then !isN x else isN x), false)
  | _ => none
theorem isN_of {R H : Hp} {x : V} {dx : PyData} (e : Ex R H) (tx : Top R H x dx) : decide (x = .non) = isN dx := by
  have h := top_dp e tx
  cases h <;> rfl
theorem gIsN_ok : OpD (fun x y H Q => y = .non ∧ Q (.bl (decide (x = .non))) H) (gIsN false) := by
  intro R H x y dx dy d fr Q e tx ty hg k
  unfold gIsN at hg
  split at hg
  · cases hg
    refine ⟨top_non ty, ?_⟩
    rw [isN_of e tx]
    exact k.now e (.bl _)
  · cases hg
theorem gNotN_ok : OpD (fun x y H Q => y = .non ∧ Q (.bl (!decide (x = .non))) H) (gIsN true) := by
  intro R H x y dx dy d fr Q e tx ty hg k
  unfold gIsN at hg
  split at hg
  · cases hg
    refine ⟨top_non ty, ?_⟩
    rw [isN_of e tx]
    exact k.now e (.bl _)
  · cases hg
/-- in, not in, over flat things -/
def flatD : PyData → Bool
  | .none => true
  | .bool _ => true
  | .int _ => true
  | .str _ => true
  | _ => false
def intOf : PyData → Option Int
  | .int i => some i
  | _ => none
def gIn (neg : Bool) (x y : PyData) : Option (PyData × Bool) := match x, y with
  | .int i, .list ds => if ds.all (fun d => (intOf d).isSome) then some (.bool (if neg then !(ds.any fun d => intOf d == some i) else ds.any fun d => intOf d == some i), false) else none
  | .int i, .tuple ds => if ds.all (fun d => (intOf d).isSome) then some (.bool (if neg then !(ds.any fun d => intOf d == some i) else ds.any fun d => intOf d == some i), false) else none
  | _, _ => none
theorem all_ints {R : Hp} : ∀ {ds : List PyData} {vs : List V} (i : Int), DqAll R vs ds → ds.all (fun d => (intOf d).isSome) = true → vs.all flatV = true ∧ inV (.int i) vs = ds.any fun d => intOf d == some i
  | [], _, i, h, _ => by cases h; exact ⟨rfl, rfl⟩
  | d :: ds, _, i, h, e => by
    cases h with
    | cons a b =>
      rw [List.all_cons, Bool.and_eq_true] at e
      obtain ⟨h1, h2⟩ := all_ints i b e.2
      cases a with
      | int j =>
        refine ⟨?_, ?_⟩
        · rw [List.all_cons, h1]
          rfl
        · unfold inV at h2 ⊢
          rw [List.any_cons, h2, List.any_cons]
          have e3 : (intOf (PyData.int j) == some i) = (j == i) := by
            show (some j == some i) = _
            rfl
          rw [e3]
          rfl
      | non => exact absurd e.1 (by decide)
      | bl _ => exact absurd e.1 Bool.false_ne_true
      | str _ => exact absurd e.1 Bool.false_ne_true
      | lst _ _ => exact absurd e.1 Bool.false_ne_true
      | tup _ _ => exact absurd e.1 Bool.false_ne_true
      | op _ => exact absurd e.1 Bool.false_ne_true
      | fz _ _ => exact absurd e.1 Bool.false_ne_true
      | d0 _ => exact absurd e.1 Bool.false_ne_true
theorem gIn_ok {neg : Bool} : OpD (rIn K neg) (gIn neg) := by
  intro R H x y dx dy d fr Q e tx ty hg k
  unfold gIn at hg
  split at hg
  · rename_i i ds
    split at hg
    · rename_i hz
      cases hg
      have e1 := top_int tx
      subst e1
      obtain ⟨a, vs, rfl, h1, h2⟩ := top_list ty
      obtain ⟨h3, h4⟩ := all_ints i h2 hz
      refine ⟨a, vs, rfl, .inl (.inl (.inl h1)), rfl, h3, ?_⟩
      rw [h4]
      exact k.now e (.bl _)
    · cases hg
  · rename_i i ds
    split at hg
    · rename_i hz
      cases hg
      have e1 := top_int tx
      subst e1
      obtain ⟨a, vs, rfl, h1, h2⟩ := top_tup e ty
      obtain ⟨h3, h4⟩ := all_ints i h2 hz
      refine ⟨a, vs, rfl, .inr (.inl (.inl (ex_rq e h1))), rfl, h3, ?_⟩
      rw [h4]
      exact k.now e (.bl _)
    · cases hg
  · cases hg
/-! subscripts -/
def gIx : PyData → PyData → Option (PyData × Bool)
  | .list ds, .int i => (atI ds i).map fun d => (d, false)
  | .tuple ds, .int i => (atI ds i).map fun d => (d, false)
  | _, _ => none
theorem gIx_ok : OpD (rIx K) gIx := by
  intro R H x y dx dy d fr Q e tx ty hg k
  unfold gIx at hg
  split at hg
  · rename_i ds i
    cases hq : atI ds i with
    | none => rw [hq] at hg; cases hg
    | some d' =>
      rw [hq] at hg
      cases hg
      have e2 := top_int ty
      subst e2
      obtain ⟨a, vs, rfl, h1, h2⟩ := top_list tx
      obtain ⟨v, h3, h4⟩ := dpa_atI h2 hq
      exact .inl ⟨a, vs, i, v, rfl, rfl, .inl (.inl h1), h3, k.now e h4⟩
  · rename_i ds i
    cases hq : atI ds i with
    | none => rw [hq] at hg; cases hg
    | some d' =>
      rw [hq] at hg
      cases hg
      have e2 := top_int ty
      subst e2
      obtain ⟨a, vs, rfl, h1, h2⟩ := top_tup e tx
      obtain ⟨v, h3, h4⟩ := dpa_atI h2 hq
      exact .inr (.inl ⟨a, vs, i, v, rfl, rfl, .inl (.inl (ex_rq e h1)), h3, k.now e h4⟩)
  · cases hg
/-! slices -/
abbrev OF := En → Option (Option Int × En)
def tO (f : OF) : TO := fun σ H Q => ∃ B H0 R0 R env o env', SRel B H0 R0 R H σ env ∧ f env = some (o, env') ∧
  ∀ R' H', SRel B H0 R0 R' H' σ env' → Ex R R' → Ex H H' → Q o H'
def oNo : OF := fun env => some (none, env)
def oYes (f : WF) : OF := fun env => match f env with
  | some (.int i, e1) => some (some i, e1)
  | _ => none
theorem PO.imp {e : Option Expr} {t t' : TO} (h : PO X e t) (i : ∀ σ H Q, t' σ H Q → t σ H Q) : PO X e t' := ⟨fun pins s σ H Q I q => h.run pins s σ H Q I (i σ H Q q)⟩
theorem qo_no : PO X none (tO oNo) := PO.imp po_none fun σ H Q q => by
  obtain ⟨B, H0, R0, R, env, d, env', S, hf, k⟩ := q
  cases hf
  exact k R H S (Ex.refl R) (Ex.refl H)
theorem qo_yes {e : Expr} {f : WF} (h : PE X e (tW f)) : PO X (some e) (tO (oYes f)) := PO.imp (po_some h) fun σ H Q q => by
  obtain ⟨B, H0, R0, R, env, d, env', S, hf, k⟩ := q
  unfold oYes at hf
  split at hf
  · rename_i i e1 h1
    cases hf
    refine ⟨B, H0, R0, R, env, .int i, _, S, h1, fun v R' H' S' e1 e2 t => ⟨i, top_int t, k R' H' S' e1 e2⟩⟩
  · cases hf
def eSl (f : WF) (lo hi : OF) : EF := fun env => match f env with
  | none => none
  | some (x, e1) => match lo e1 with
    | none => none
    | some (l, e2) => match hi e2 with
      | none => none
      | some (h, e3) => match x with
        | .list ds => some (.list (cutA ds l h), true, e3)
        | .tuple ds => some (.tuple (cutA ds l h), false, e3)
        | _ => none
def rSlQ (K : PySem.W.Frag) : V → Option Int → Option Int → Hp → VK → Prop := fun x lo hi H Q => rSlL K x lo hi H Q ∨ rSlA K x lo hi H Q
theorem cutA_whole {α : Type} (ds : List α) (lo hi : Option Int) (h : HT.sIx ds.length 0 lo = 0 ∧ HT.sIx ds.length ds.length hi = ds.length) : cutA ds lo hi = ds := by
  unfold cutA
  rw [h.1, h.2, List.drop_zero, Nat.sub_zero, List.take_length]
theorem qe_sl {e : Expr} {lo hi : Option Expr} {f : WF} {fl fh : OF} {p2 pos : Pos} (he : PE X e (tW f)) (hl : PO X lo (tO fl)) (hh : PO X hi (tO fh)) : PE X (.Subscript e (.Slice lo hi none p2) pos) (tE (eSl f fl fh)) :=
  PE.imp (pe_slice (r := rSlQ X.K) (sl_list.or sl_tupA) he hl hh) fun σ H Q q => by
    obtain ⟨B, H0, R0, R, env, d, fr, env', S, hf, k⟩ := q
    unfold eSl at hf
    split at hf
    · cases hf
    · rename_i x e1 h1
      split at hf
      · cases hf
      · rename_i l e2 h2
        split at hf
        · cases hf
        · rename_i h e3 h3
          refine ⟨B, H0, R0, R, env, x, e1, S, h1, fun u R1 H1 S1 i1 j1 t1 => ⟨B, H0, R0, R1, e1, l, e2, S1, h2, fun R2 H2 S2 i2 j2 => ⟨B, H0, R0, R2, e2, h, e3, S2, h3, fun R3 H3 S3 i3 j3 => ?_⟩⟩⟩
          have t3 := top_mono (i2.trans i3) (j2.trans j3) t1
          split at hf
          · rename_i ds
            cases hf
            obtain ⟨a, vs, rfl, g1, g2⟩ := top_list t3
            refine .inl ⟨a, vs, rfl, .inl (.inl g1), fun p hp => ?_⟩
            exact Cont.nowL S3.rh (S3.cont fun v R' H' S' e1 e2 r => k v R' H' S' (((i1.trans i2).trans i3).trans e1) (((j1.trans j2).trans j3).trans e2) r) hp (dpa_cut l h g2)
          · rename_i ds
            cases hf
            obtain ⟨a, vs, rfl, g1, g2⟩ := top_tup S3.rh t3
            have kk : Cont R3 H3 (.tuple (cutA ds l h)) false Q := S3.cont fun v R' H' S' e1 e2 r => k v R' H' S' (((i1.trans i2).trans i3).trans e1) (((j1.trans j2).trans j3).trans e2) r
            refine .inr ⟨a, vs, rfl, .inl (.inl (ex_rq S3.rh g1)), fun hw => ?_, fun _ p hp => ?_⟩
            · rw [dpa_len g2] at hw
              rw [cutA_whole ds l h hw] at kk
              exact kk.now S3.rh (.tup g1 g2)
            · exact kk.nowT S3.rh hp (dpa_cut l h g2)
          · cases hf
/-! built-ins -/
def gLen : List PyData → Option (PyData × Bool)
  | [.list ds] => some (.int (ds.length : Int), false)
  | [.tuple ds] => some (.int (ds.length : Int), false)
  | _ => none
theorem tops1 {R H : Hp} {vs : List V} {d : PyData} (h : TopAll R H vs [d]) : ∃ v, vs = [v] ∧ Top R H v d := by
  cases h with
  | cons a b => cases b; exact ⟨_, rfl, a⟩
theorem tops2 {R H : Hp} {vs : List V} {d e : PyData} (h : TopAll R H vs [d, e]) : ∃ v w, vs = [v, w] ∧ Top R H v d ∧ Top R H w e := by
  cases h with
  | cons a b =>
    obtain ⟨w, rfl, c⟩ := tops1 b
    exact ⟨_, _, rfl, a, c⟩
theorem gLen_ok : CallD (fun xs H Q => ∃ p ys, xs = [.ref p] ∧ (SqL K H p ys ∨ SqT K H p ys) ∧ Q (.int ys.length) H) gLen := by
  intro R H vs ds d fr Q e t hg k
  unfold gLen at hg
  split at hg
  · cases hg
    obtain ⟨v, rfl, t1⟩ := tops1 t
    obtain ⟨a, vs, rfl, h1, h2⟩ := top_list t1
    refine ⟨a, vs, rfl, .inl (.inl (.inl h1)), ?_⟩
    rw [dpa_len h2]
    exact k.now e (.int _)
  · cases hg
    obtain ⟨v, rfl, t1⟩ := tops1 t
    obtain ⟨a, vs, rfl, h1, h2⟩ := top_tup e t1
    refine ⟨a, vs, rfl, .inr (.inl (.inl (ex_rq e h1))), ?_⟩
    rw [dpa_len h2]
    exact k.now e (.int _)
  · cases hg
def gList : List PyData → Option (PyData × Bool)
  | [.list ds] => some (.list ds, true)
  | [.tuple ds] => some (.list ds, true)
  | _ => none
theorem gList_ok : CallD (fun xs H Q => ∃ p ys, xs = [.ref p] ∧ (SqL K H p ys ∨ SqT K H p ys) ∧ ∀ l, H l = none → Q (.ref l) (upd H l (.lst ys))) gList := by
  intro R H vs ds d fr Q e t hg k
  unfold gList at hg
  split at hg
  · cases hg
    obtain ⟨v, rfl, t1⟩ := tops1 t
    obtain ⟨a, vs, rfl, h1, h2⟩ := top_list t1
    exact ⟨a, vs, rfl, .inl (.inl (.inl h1)), fun l hl => k.nowL e hl h2⟩
  · cases hg
    obtain ⟨v, rfl, t1⟩ := tops1 t
    obtain ⟨a, vs, rfl, h1, h2⟩ := top_tup e t1
    exact ⟨a, vs, rfl, .inr (.inl (.inl (ex_rq e h1))), fun l hl => k.nowL e hl h2⟩
  · cases hg
def gMin2 : List PyData → Option (PyData × Bool)
  | [.int i, .int j] => some (.int (if j < i then j else i), false)
  | _ => none
def gMax2 : List PyData → Option (PyData × Bool)
  | [.int i, .int j] => some (.int (if j > i then j else i), false)
  | _ => none
theorem gMin2_ok : CallD (fun xs H Q => ∃ i j, xs = [.int i, .int j] ∧ Q (.int (if j < i then j else i)) H) gMin2 := by
  intro R H vs ds d fr Q e t hg k
  unfold gMin2 at hg
  split at hg
  · cases hg
    obtain ⟨v, w, rfl, t1, t2⟩ := tops2 t
    have e1 := top_int t1
    have e2 := top_int t2
    subst e1 e2
    exact ⟨_, _, rfl, k.now e (.int _)⟩
  · cases hg
theorem gMax2_ok : CallD (fun xs H Q => ∃ i j, xs = [.int i, .int j] ∧ Q (.int (if j > i then j else i)) H) gMax2 := by
  intro R H vs ds d fr Q e t hg k
  unfold gMax2 at hg
  split at hg
  · cases hg
    obtain ⟨v, w, rfl, t1, t2⟩ := tops2 t
    have e1 := top_int t1
    have e2 := top_int t2
    subst e1 e2
    exact ⟨_, _, rfl, k.now e (.int _)⟩
  · cases hg
/-! isinstance(x, T) -/
def tyN : PyData → Option String
  | .none => some "NoneType"
  | .bool _ => some "bool"
  | .int _ => some "int"
  | .str _ => some "str"
  | .list _ => some "list"
  | .tuple _ => some "tuple"
  | .dict [] => some "dict"
  | .dict _ => none
theorem tyN_ok {H : Hp} {v : V} {d : PyData} {n : String} (h : Dq H v d) (e : tyN d = some n) : TyX K H v (.type n) := by
  cases h with
  | non => cases e; exact .base .non
  | bl b => cases e; exact .base (.bl b)
  | int i => cases e; exact .base (.int i)
  | str x => cases e; exact .base (.str x)
  | lst a b =>
    cases e
    exact .base (.lst a)
  | tup a b =>
    cases e
    exact .base (.tup a)
  | op a => cases e
  | fz ns a => cases e
  | d0 a => cases e; exact .base (.dK a)
def eIsi (T : String) (f : WF) : EF := fun env => match f env with
  | none => none
  | some (d, e1) => match tyN d with
    | none => none
    | some n => match kitB n T with
      | none => none
      | some b => some (.bool b, false, e1)
theorem qe_isi {e : Expr} {f : WF} {T : String} {x : Str} {p p2 pos : Pos} (hgl : Gl X "isinstance") (hm : X.mg "isinstance" = none) (hv : bootBuiltins "isinstance" = some (.builtin "isinstance")) (he : PE X e (tW f)) (hg2 : Gl X x) (hm2 : X.mg x = none) (hv2 : bootBuiltins x = some (.type T))
    (hn : x ≠ "__name__" := by decide) (hdb : (x == ("__debug__" : Str)) = false := by decide)
    (h1 : starEach [e, .Name x p2] X.env = (false, eval e X.env) :: starEach [.Name x p2] X.env := by rfl) (h2 : (backTo pos (starEach [.Name x p2] X.env)).any (·.1) = false := by rfl) (h3 : starEach [.Name x p2] X.env = (false, eval (.Name x p2) X.env) :: starEach [] X.env := by rfl) :
    PE X (.Call (.Name "isinstance" p) [e, .Name x p2] [] pos) (tE (eIsi T f)) :=
  PE.imp (pe_callB (id := "isinstance") call_isi hgl hm hv (pa_cons he (pa_cons (pe_bltn (v := .ty T) hg2 hm2 hv2 rfl hn hdb) pa_nil h3) h1) (by decide) (by decide) h1 h2) fun σ H Q q => by
    obtain ⟨B, H0, R0, R, env, d, fr, env', S, hf, k⟩ := q
    unfold eIsi at hf
    split at hf
    · cases hf
    · rename_i d' e1 g1
      split at hf
      · cases hf
      · rename_i n hn1
        split at hf
        · cases hf
        · rename_i b hb
          cases hf
          refine ⟨B, H0, R0, R, env, d', _, S, g1, fun v R1 H1 S1 i1 j1 t1 => ?_⟩
          exact ⟨v, .ty T, .type n, .type T, b, rfl, .ty T, tyN_ok (top_dp S1.rh t1) hn1, kit_ty hb, k _ R1 H1 S1 i1 j1 (.bl b)⟩
/-! calls of the program's own: of each parameter the promise says whether it is shared (false), or only read (true) -/
inductive ArgAll (R H : Hp) : List Bool → List V → List PyData → Prop
  | nil : ArgAll R H [] [] []
  | sh {m v d ms vs ds} (h : Dq R v d) (r : ArgAll R H ms vs ds) : ArgAll R H (m :: ms) (v :: vs) (d :: ds)
  | rd {v d ms vs ds} (h : Top R H v d) (r : ArgAll R H ms vs ds) : ArgAll R H (true :: ms) (v :: vs) (d :: ds)
theorem ArgAll.mono {R R' H H' : Hp} (a : Ex R R') (b : Ex H H') : ∀ {ms : List Bool} {vs : List V} {ds : List PyData}, ArgAll R H ms vs ds → ArgAll R' H' ms vs ds
  | _, _, _, .nil => .nil
  | _, _, _, .sh p q => .sh (dp_mono a p) (ArgAll.mono a b q)
  | _, _, _, .rd p q => .rd (top_mono a b p) (ArgAll.mono a b q)
theorem ArgAll.len {R H : Hp} : ∀ {ms : List Bool} {vs : List V} {ds : List PyData}, ArgAll R H ms vs ds → vs.length = ds.length ∧ ms.length = ds.length
  | _, _, _, .nil => ⟨rfl, rfl⟩
  | _, _, _, .sh _ q => ⟨congrArg (· + 1) (ArgAll.len q).1, congrArg (· + 1) (ArgAll.len q).2⟩
  | _, _, _, .rd _ q => ⟨congrArg (· + 1) (ArgAll.len q).1, congrArg (· + 1) (ArgAll.len q).2⟩
def tM (ms : List Bool) (f : AF) : TA := fun σ H Q => ∃ B H0 R0 R env ds env', SRel B H0 R0 R H σ env ∧ f env = some (ds, env') ∧
  ∀ vs R' H', SRel B H0 R0 R' H' σ env' → Ex R R' → Ex H H' → ArgAll R' H' ms vs ds → Q vs H'
theorem qm_nil : PA X [] (tM [] aNil) := PA.imp pa_nil fun σ H Q q => by
  obtain ⟨B, H0, R0, R, env, ds, env', S, hf, k⟩ := q
  cases hf
  exact k [] R H S (Ex.refl R) (Ex.refl H) .nil
theorem qm_s {m : Bool} {ms : List Bool} {e : Expr} {es : List Expr} {f : EF} {ga : AF} (h : PE X e (tE f)) (hr : PA X es (tM ms ga)) (hs : starEach (e :: es) X.env = (false, eval e X.env) :: starEach es X.env := by rfl) : PA X (e :: es) (tM (m :: ms) (aCons f ga)) :=
  PA.imp (pa_cons h hr hs) fun σ H Q q => by
    obtain ⟨B, H0, R0, R, env, ds, env', S, hf, k⟩ := q
    unfold aCons at hf
    split at hf
    · cases hf
    · rename_i d fr e1 h1
      split at hf
      · cases hf
      · rename_i ds' e2 h2
        cases hf
        refine ⟨B, H0, R0, R, env, d, fr, e1, S, h1, fun v R1 H1 S1 i1 j1 r1 => ?_⟩
        obtain ⟨R2, i2, S2, hd⟩ := r1.share S1
        exact ⟨B, H0, R0, R2, e1, ds', _, S2, h2, fun vs R3 H3 S3 i3 j3 r3 => k (v :: vs) R3 H3 S3 ((i1.trans i2).trans i3) (j1.trans j3) (.sh (dp_mono i3 hd) r3)⟩
theorem qm_b {ms : List Bool} {e : Expr} {es : List Expr} {fa : WF} {ga : AF} (h : PE X e (tW fa)) (hr : PA X es (tM ms ga)) (hs : starEach (e :: es) X.env = (false, eval e X.env) :: starEach es X.env := by rfl) : PA X (e :: es) (tM (true :: ms) (bCons fa ga)) :=
  PA.imp (pa_cons h hr hs) fun σ H Q q => by
    obtain ⟨B, H0, R0, R, env, ds, env', S, hf, k⟩ := q
    unfold bCons at hf
    split at hf
    · cases hf
    · rename_i d e1 h1
      split at hf
      · cases hf
      · rename_i ds' e2 h2
        cases hf
        refine ⟨B, H0, R0, R, env, d, e1, S, h1, fun v R1 H1 S1 i1 j1 r1 => ?_⟩
        exact ⟨B, H0, R0, R1, e1, ds', _, S1, h2, fun vs R3 H3 S3 i3 j3 r3 => k (v :: vs) R3 H3 S3 (i1.trans i3) (j1.trans j3) (.rd (top_mono i3 j3 r1) r3)⟩
def spD (g : List PyData → Option (PyData × Bool)) (ms : List Bool) : Sp := fun vs H Q _ => ∃ R ds d fr, Ex R H ∧ ArgAll R H ms vs ds ∧ g ds = some (d, fr) ∧ Cont R H d fr Q
def eCall (g : List PyData → Option (PyData × Bool)) (fa : AF) : EF := fun env => match fa env with
  | none => none
  | some (ds, e1) => match g ds with
    | none => none
    | some (d, fr) => some (d, fr, e1)
theorem qe_call {CX : CXT} {k : Nat} {f : Addr} {fd : FuncData} {ps : List Str} {g : List PyData → Option (PyData × Bool)} {ms : List Bool} {x : Str} {p pos : Pos} {e : Expr} {es : List Expr} {fa : AF} {E : XK}
    (F : FnOk X.prog X.w X.K X.mg X.base CX k f fd ps (spD g ms)) (hr : Room k X.A) (hg : Gl X x) (hm : X.mg x = some (.ref f)) (hk : PySem.W.keepIn X.K (.ref f) = true) (hb : Binds X.K fd ps []) (hx : Passes CX X E)
    (ha : PA X (e :: es) (tM ms fa)) (hdb : (x == ("__debug__" : Str)) = false := by decide) (he : starEach (e :: es) X.env = (false, eval e X.env) :: starEach es X.env := by rfl) (hpl : (backTo pos (starEach es X.env)).any (·.1) = false := by rfl) :
    PE X (.Call (.Name x p) (e :: es) [] pos) (tE (eCall g fa)) := PE.imp (pe_call F hr hg hm hk hb .nil hx ha hdb he hpl) fun σ H Q q => by
  obtain ⟨B, H0, R0, R, env, d, fr, env', S, hf, kk⟩ := q
  unfold eCall at hf
  split at hf
  · cases hf
  · rename_i ds e1 g1
    split at hf
    · cases hf
    · rename_i d' fr' g2
      cases hf
      refine ⟨B, H0, R0, R, env, ds, _, S, g1, fun vs R1 H1 S1 i1 j1 t1 => ?_⟩
      show spD g ms (vs ++ []) H1 Q E
      rw [List.append_nil]
      exact ⟨R1, ds, d, fr, S1.rh, t1, g2, S1.cont fun v R' H' S' e1 e2 r => kk v R' H' S' (i1.trans e1) (j1.trans e2) r⟩
end
end Fw
namespace Fw
open PySem PySem.Spec PyProof.Rows L2 Evl

inductive Out where
  | nx (e : En)
  | rt (d : PyData) (fr : Bool)
  | bk (e : En)
  | ct (e : En)
  | bad
abbrev SF := En → Out
def Good (B H0 R0 R : Hp) (D : Ends) : Out → Prop
  | .nx e => ∀ σ' R' H', SRel B H0 R0 R' H' σ' e → Ex R R' → D.nx σ' H'
  | .bk e => ∀ σ' R' H', SRel B H0 R0 R' H' σ' e → Ex R R' → D.bk σ' H'
  | .ct e => ∀ σ' R' H', SRel B H0 R0 R' H' σ' e → Ex R R' → D.ct σ' H'
  | .rt d fr => Cont R0 H0 d fr D.rt
  | .bad => False
def tS (f : SF) : TS := fun D σ H => ∃ B H0 R0 R env, SRel B H0 R0 R H σ env ∧ Good B H0 R0 R D (f env)

section
variable {B H0 R0 R R' H H' : Hp} {σ : L2.St} {env env' : En} {v : V} {d : PyData} {fr : Bool} {D : Ends}
theorem Good.mono {o : Out} (e : Ex R R') (h : Good B H0 R0 R D o) : Good B H0 R0 R' D o := by
  cases o with
  | nx x => exact fun σ' R2 H' S q => h σ' R2 H' S (e.trans q)
  | bk x => exact fun σ' R2 H' S q => h σ' R2 H' S (e.trans q)
  | ct x => exact fun σ' R2 H' S q => h σ' R2 H' S (e.trans q)
  | rt d fr => exact h
  | bad => exact h
/-- a returned value, seen from the entry -/
theorem Res.rres (S : SRel B H0 R0 R H σ env) (h : Res H0 R H σ env v d fr) : RRes H0 R H v d fr := by
  cases fr with
  | false => exact h
  | true =>
    obtain ⟨a, vs, ds, e1, e2, h1, h2, h3, h4, _⟩ := h
    exact ⟨a, vs, ds, e1, e2, h1, h2, h3, h4⟩
def seqS (f g : SF) : SF := fun env => match f env with
  | .nx e => g e
  | o => o
end
section
variable {X : Cx} {st : Stmt} {rest body : List Stmt} {e a b : Expr} {pos : Pos} {f g : SF} {fe : EF} {fw : WF} {ft : TF}

theorem qs_nil : PSs X [] (tS .nx) := PSs.imp pss_nil fun D σ H ⟨B, H0, R0, R, env, S, h⟩ => h σ R H S (Ex.refl R)
theorem qs_one (h : PS X st (tS f)) : PSs X [st] (tS f) := pss_one h
theorem qs_cons (h1 : PS X st (tS f)) (h2 : PSs X rest (tS g)) : PSs X (st :: rest) (tS (seqS f g)) := PSs.imp (pss_cons h1 h2) fun D σ H ⟨B, H0, R0, R, env, S, h⟩ => by
  refine ⟨B, H0, R0, R, env, S, ?_⟩
  unfold seqS at h
  cases hq : f env with
  | nx e1 =>
    rw [hq] at h
    exact fun σ' R' H' S' i => ⟨B, H0, R0, R', e1, S', Good.mono i h⟩
  | bk e1 => rw [hq] at h; exact h
  | ct e1 => rw [hq] at h; exact h
  | rt d fr => rw [hq] at h; exact h
  | bad => rw [hq] at h; exact h
theorem qs_pass : PS X (.Pass pos) (tS .nx) := PS.imp ps_pass fun D σ H ⟨B, H0, R0, R, env, S, h⟩ => h σ R H S (Ex.refl R)
theorem qs_break : PS X (.Break pos) (tS .bk) := PS.imp ps_break fun D σ H ⟨B, H0, R0, R, env, S, h⟩ => h σ R H S (Ex.refl R)
theorem qs_cont : PS X (.Continue pos) (tS .ct) := PS.imp ps_continue fun D σ H ⟨B, H0, R0, R, env, S, h⟩ => h σ R H S (Ex.refl R)
theorem qs_never : PS X st (tS fun _ => .bad) := PS.imp ps_never fun D σ H ⟨B, H0, R0, R, env, S, h⟩ => h
def sRet (fe : EF) : SF := fun env => match fe env with
  | none => .bad
  | some (d, fr, _) => .rt d fr
theorem qs_ret (h : PE X e (tE fe)) : PS X (.Return (some e) pos) (tS (sRet fe)) := PS.imp (ps_ret h) fun D σ H ⟨B, H0, R0, R, env, S, q⟩ => by
  unfold sRet at q
  cases hq : fe env with
  | none => rw [hq] at q; exact q.elim
  | some r =>
    obtain ⟨d, fr, e1⟩ := r
    rw [hq] at q
    exact ⟨B, H0, R0, R, env, d, fr, e1, S, hq, fun v R' H' S' i j r => q v R' H' S'.r0 S'.h0 S'.rh S'.new (r.rres S')⟩
theorem qs_retN : PS X (.Return none pos) (tS fun _ => .rt .none false) := PS.imp ps_retN fun D σ H ⟨B, H0, R0, R, env, S, q⟩ => q .non R H S.r0 S.h0 S.rh S.new .non
def sIf (c : TF) (f g : SF) : SF := fun env => match c env with
  | none => .bad
  | some (true, e1) => f e1
  | some (false, e1) => g e1
theorem qs_if {c : Expr} {x y : List Stmt} (hc : PT X c (tT ft)) (ha : PSs X x (tS f)) (hb : PSs X y (tS g)) : PS X (.If c x y pos) (tS (sIf ft f g)) := PS.imp (ps_if hc ha hb) fun D σ H ⟨B, H0, R0, R, env, S, q⟩ => by
  unfold sIf at q
  cases hq : ft env with
  | none => rw [hq] at q; exact q.elim
  | some r =>
    obtain ⟨b, e1⟩ := r
    rw [hq] at q
    refine ⟨B, H0, R0, R, env, b, e1, S, hq, fun R1 H1 S1 i j => ?_⟩
    cases b with
    | true => exact iteT ⟨B, H0, R0, R1, e1, S1, Good.mono i q⟩
    | false => exact iteF ⟨B, H0, R0, R1, e1, S1, Good.mono i q⟩
/-! targets -/
abbrev GF := PyData → En → Option En
def tG (js : List Nat) (f : GF) : TG := fun v σ H Q => ∃ B H0 R0 R env d env', SRel B H0 R0 R H σ env ∧ Dq R v d ∧ f d env = some env' ∧ ∀ σ', SRel B H0 R0 R H σ' env' → (∀ i, i ∉ js → σ'[i]? = σ[i]?) → σ'.length = σ.length → Q σ' H
def tGs (js : List Nat) (f : List PyData → En → Option En) : TGs := fun vs σ H Q => ∃ B H0 R0 R env ds env', SRel B H0 R0 R H σ env ∧ DqAll R vs ds ∧ f ds env = some env' ∧ ∀ σ', SRel B H0 R0 R H σ' env' → (∀ i, i ∉ js → σ'[i]? = σ[i]?) → σ'.length = σ.length → Q σ' H
theorem _root_.L2.PG.imp {tg : Expr} {t t' : TG} (h : PG X tg t) (i : ∀ v σ H Q, t' v σ H Q → t v σ H Q) : PG X tg t' := ⟨fun pins s σ H v u Q I r q => h.run pins s σ H v u Q I r (i v σ H Q q)⟩
theorem _root_.L2.PGs.imp {tg : List Expr} {t t' : TGs} (h : PGs X tg t) (i : ∀ v σ H Q, t' v σ H Q → t v σ H Q) : PGs X tg t' := ⟨fun pins s σ H v u Q I r q => h.run pins s σ H v u Q I r (i v σ H Q q)⟩
def gNm (i : Nat) : GF := fun d env => some (env.set i (some (d, false)))
theorem qg_name {x : Str} (i : Nat) (h : PG X (.Name x pos) (gName i)) : PG X (.Name x pos) (tG [i] (gNm i)) := PG.imp h fun v σ H Q ⟨B, H0, R0, R, env, d, env', S, hd, hf, k⟩ => by
  cases hf
  refine k _ (S.setS hd) (fun j hj => ?_) (List.length_set)
  rw [List.getElem?_set_ne]
  intro z
  exact hj (by rw [z]; exact List.mem_singleton.mpr rfl)
def gsNil : List PyData → En → Option En
  | [], env => some env
  | _ :: _, _ => none
def gsCons (f : GF) (g : List PyData → En → Option En) : List PyData → En → Option En
  | [], _ => none
  | d :: ds, env => match f d env with
    | none => none
    | some e1 => g ds e1
theorem qgs_nil : PGs X [] (tGs [] gsNil) := PGs.imp pgs_nil fun vs σ H Q ⟨B, H0, R0, R, env, ds, env', S, hd, hf, k⟩ => by
  cases hd with
  | nil =>
    cases hf
    exact ⟨rfl, k σ S (fun _ _ => rfl) rfl⟩
  | cons a b => cases hf
theorem qgs_cons {tg : Expr} {tgs : List Expr} {js ks : List Nat} {f : GF} {g : List PyData → En → Option En} (h1 : PG X tg (tG js f)) (h2 : PGs X tgs (tGs ks g)) (hs : (assignEach (tg :: tgs) X.env).map (·.2) = assign tg X.env :: (assignEach tgs X.env).map (·.2) := by rfl) : PGs X (tg :: tgs) (tGs (js ++ ks) (gsCons f g)) := PGs.imp (pgs_cons h1 h2 hs) fun vs σ H Q ⟨B, H0, R0, R, env, ds, env', S, hd, hf, k⟩ => by
  cases hd with
  | nil => cases hf
  | cons a b =>
    simp only [gsCons] at hf
    split at hf
    · cases hf
    · rename_i e1 g1
      refine ⟨_, _, rfl, B, H0, R0, R, _, _, _, S, a, g1, fun σ1 S1 n1 l1 => ⟨B, H0, R0, R, _, _, env', S1, b, hf, fun σ2 S2 n2 l2 => k σ2 S2 (fun i hi => ?_) (l2.trans l1)⟩⟩
      rw [List.mem_append, not_or] at hi
      rw [n2 i hi.2, n1 i hi.1]
def gTp (n : Nat) (g : List PyData → En → Option En) : GF := fun d env => match d with
  | .tuple ds => if ds.length = n then g ds env else none
  | _ => none
theorem qg_tup {es : List Expr} {k n : Nat} {js : List Nat} {g : List PyData → En → Option En} (hc : X.calm = true) (h : PGs X es (tGs js g)) (hn : (assignEach es X.env).length = n := by rfl) (hst : (assignEach es X.env).findIdx? (·.1) = none := by rfl) : PG X (.Tuple es k pos) (tG js (gTp n g)) := PG.imp (pg_tup hc h hn hst) fun v σ H Q ⟨B, H0, R0, R, env, d, env', S, hd, hf, kk⟩ => by
  unfold gTp at hf
  split at hf
  · split at hf
    · rename_i ds hl
      cases hd with
      | tup a b => exact ⟨_, _, rfl, .inl (.inl (ex_rq S.rh a)), by rw [dpa_len b, hl], B, H0, R0, R, env, ds, env', S, b, hf, kk⟩
    · cases hf
  · cases hf
/-! assignments -/
def sSet (i : Nat) (fe : EF) : SF := fun env => match fe env with
  | none => .bad
  | some (d, fr, e1) => .nx (e1.set i (some (d, fr)))
theorem setS_ok {i : Nat} {D : Ends} {σ : L2.St} {H : Hp} (q : tS (sSet i fe) D σ H) : tAsg (tE fe) (gName i) D σ H := by
  obtain ⟨B, H0, R0, R, env, S, q⟩ := q
  unfold sSet at q
  cases hq : fe env with
  | none => rw [hq] at q; exact q.elim
  | some r =>
    obtain ⟨d, fr, e1⟩ := r
    rw [hq] at q
    refine ⟨B, H0, R0, R, env, d, fr, e1, S, hq, fun v R' H' S' i j r => ?_⟩
    cases fr with
    | false => exact q _ R' H' (S'.setS r) i
    | true =>
      obtain ⟨p, vs, ds, rfl, rfl, h1, h2, h3, h4, h5⟩ := r
      exact q _ R' H' (S'.setO h1 h2 h3 h4 h5) i
theorem qs_set {tg : Expr} {i : Nat} (h : PS X (.Assign [tg] e pos) (tAsg (tE fe) (gName i))) : PS X (.Assign [tg] e pos) (tS (sSet i fe)) := PS.imp h fun D σ H q => setS_ok q
/-- target = value, the value shared -/
def sAsg (fe : EF) (g : GF) : SF := fun env => match fe env with
  | none => .bad
  | some (d, _, e1) => match g d e1 with
    | none => .bad
    | some e2 => .nx e2
theorem qs_asg {tg : Expr} {js : List Nat} {g : GF} (he : PE X e (tE fe)) (hg : PG X tg (tG js g)) (hs : swapsWithSole [tg] e pos.line X.env = pure false := by rfl) (hw : swappedStores [tg] e X.env = pure none := by rfl) (h1 : (assignEach [tg] X.env).map (·.2) = [assign tg X.env] := by rfl) : PS X (.Assign [tg] e pos) (tS (sAsg fe g)) :=
  PS.imp (ps_asg he hg hs hw h1) fun D σ H ⟨B, H0, R0, R, env, S, q⟩ => by
    unfold sAsg at q
    cases hq : fe env with
    | none => rw [hq] at q; exact q.elim
    | some r =>
      obtain ⟨d, fr, e1⟩ := r
      rw [hq] at q
      cases hq2 : g d e1 with
      | none => simp only [hq2] at q; exact q.elim
      | some e2 =>
        simp only [hq2] at q
        refine ⟨B, H0, R0, R, env, d, fr, e1, S, hq, fun v R' H' S' i j r => ?_⟩
        obtain ⟨R2, i2, S2, hd⟩ := r.share S'
        exact ⟨B, H0, R0, R2, e1, d, e2, S2, hd, hq2, fun σ' S3 _ _ => q σ' R2 H' S3 (i.trans i2)⟩
/-- name op= whole number -/
def sAug (i : Nat) (op : Int → Int → Int) (fe : EF) : SF := fun env => match env[i]? with
  | some (some (.int x, false)) => (match fe env with
    | some (.int y, _, e1) => .nx (e1.set i (some (.int (op x y), false)))
    | _ => .bad)
  | _ => .bad
theorem qs_aug {tg : Expr} {i : Nat} {o : Operator} {op : Int → Int → Int} (h : PS X (.AugAssign tg o e pos) (tAug i (tE fe) (ipI op))) : PS X (.AugAssign tg o e pos) (tS (sAug i op fe)) := PS.imp h fun D σ H ⟨B, H0, R0, R, env, S, q⟩ => by
  unfold sAug at q
  split at q
  · rename_i x hx
    split at q
    · rename_i y fr e1 hy
      obtain ⟨v, h1, h2⟩ := S.slot i _ hx
      have h2 := h2.dq rfl
      cases h2
      refine ⟨_, h1, B, H0, R0, R, env, _, fr, e1, S, hy, fun w R' H' S' i j r => ?_⟩
      have ew := top_int (r.top S')
      subst ew
      exact ⟨x, y, rfl, rfl, q _ R' H' (S'.setS (.int _)) i⟩
    · exact q.elim
  · exact q.elim
/-- an owned list: xs.append(e) -/
def sApp (i : Nat) (fe : EF) : SF := fun env => match env[i]? with
  | some (some (.list ds, true)) => if ds.length < 1000 then (match fe env with
    | some (d, _, e1) => (match e1[i]? with
      | some (some (.list ds', true)) => if ds'.length < 1000 then .nx (e1.set i (some (.list (ds' ++ [d]), true))) else .bad
      | _ => .bad)
    | none => .bad) else .bad
  | _ => .bad
theorem app_ok {i : Nat} {K : PySem.W.Frag} {D : Ends} {σ : L2.St} {H : Hp} (q : tS (sApp i fe) D σ H) : tDrop (tBM K "list" rAppend (tVar i) (tCons (tE fe) tNil)) D σ H := by
  obtain ⟨B, H0, R0, R, env, S, q⟩ := q
  unfold sApp at q
  split at q
  · rename_i ds hx
    split at q
    · split at q
      · rename_i d fr e1 hy
        split at q
        · rename_i ds' hz
          split at q
          · rename_i hl
            obtain ⟨a, vs, ds0, ed, h1, h2, h3, h4, h5⟩ := S.own i _ hx
            refine ⟨_, h1, .inl ⟨rfl, vs, .inl (.inl h2)⟩, B, H0, R0, R, env, d, fr, e1, S, hy, fun w R' H' S' i1 j1 r => ?_⟩
            obtain ⟨R2, i2, S2, hd⟩ := r.share S'
            obtain ⟨a', vs', ds1, ed', g1, g2, g3, g4, g5⟩ := S2.own i _ hz
            rw [h1] at g1
            cases g1
            cases ed'
            refine ⟨a, vs', w, rfl, rfl, g2, by rw [dpa_len g5]; exact Nat.lt_of_lt_of_le hl (by decide), ?_⟩
            refine q σ R2 _ (S2.writeO (vs := vs' ++ [w]) hz h1 (dpa_app g5 (.cons hd .nil))) (i1.trans i2)
          · exact q.elim
        · exact q.elim
      · exact q.elim
    · exact q.elim
  · exact q.elim
/-- an owned list: xs[k] = e -/
def sSetIx (i : Nat) (fe : EF) (fk : WF) : SF := fun env => match fe env with
  | none => .bad
  | some (d, _, e1) => match fk e1 with
    | some (.int k, e2) => (match e2[i]? with
      | some (some (.list ds, true)) => (match ixN ds.length k with
        | some j => .nx (e2.set i (some (.list (ds.set j d), true)))
        | none => .bad)
      | _ => .bad)
    | _ => .bad
def rSetQ : V → V → V → Hp → (Hp → Prop) → Prop := rSetL
theorem setIx_ok {i : Nat} {D : Ends} {σ : L2.St} {H : Hp} (hk : ∀ env r, fw env = some r → r.2 = env) (q : tS (sSetIx i fe fw) D σ H) : tAsg (tE fe) (L2.gSub (tVar i) (tW fw) rSetL) D σ H := by
  obtain ⟨B, H0, R0, R, env, S, q⟩ := q
  unfold sSetIx at q
  split at q
  · exact q.elim
  · rename_i d fr e1 h1
    split at q
    · rename_i k e2 h2
      split at q
      · rename_i ds h3
        split at q
        · rename_i j h4
          have ee := hk _ _ h2
          simp only at ee
          subst ee
          refine ⟨B, H0, R0, R, env, d, fr, _, S, h1, fun w R' H' S' i1 j1 r => ?_⟩
          obtain ⟨R2, i2, S2, hd⟩ := r.share S'
          obtain ⟨a, vs, ds1, ed, g1, g2, g3, g4, g5⟩ := S2.own i _ h3
          cases ed
          refine ⟨_, g1, B, H0, R0, R2, _, _, _, S2, h2, fun u R3 H3 S3 i3 j3 t3 => ?_⟩
          have eu := top_int t3
          subst eu
          obtain ⟨a', vs', ds1, ed', f1, f2, f3, f4, f5⟩ := S3.own i _ h3
          rw [g1] at f1
          cases f1
          cases ed'
          refine ⟨a, vs', k, j, rfl, rfl, f2, by rw [dpa_len f5]; exact h4, ?_⟩
          exact q σ R3 _ (S3.writeO h3 g1 (dpa_set (dp_mono i3 hd) j f5)) ((i1.trans i2).trans i3)
        · exact q.elim
      · exact q.elim
    · exact q.elim
/-- an expression whose value is dropped -/
def sDrop (fe : EF) : SF := fun env => match fe env with
  | none => .bad
  | some (_, _, e1) => .nx e1
theorem qs_drop (h : PE X e (tE fe)) (hs : swapsWith e none pos.line X.env = pure false := by rfl) : PS X (.Expr e pos) (tS (sDrop fe)) := PS.imp (ps_expr h hs) fun D σ H ⟨B, H0, R0, R, env, S, q⟩ => by
  unfold sDrop at q
  cases hq : fe env with
  | none => rw [hq] at q; exact q.elim
  | some r =>
    obtain ⟨d, fr, e1⟩ := r
    rw [hq] at q
    exact ⟨B, H0, R0, R, env, d, fr, e1, S, hq, fun v R' H' S' i j r => q σ R' H' S' i⟩

/-! what is walked -/
structure Wk (B R : Hp) (J : It) (xs : List PyData) : Prop where
  go : ∀ i R' H', Ex B H' → Ex R R' → Ex R' H' → i < xs.length → J.go i H'
  yld : ∀ i R' H' x H'' d, Ex B H' → Ex R R' → Ex R' H' → xs[i]? = some d → J.yld i H' x H'' → ∃ R'', Ex R' R'' ∧ Ex H' H'' ∧ Ex R'' H'' ∧ (∀ b o, R'' b = some o → R' b = none → H' b = none) ∧ Dq R'' x d
  stop : ∀ i R' H', Ex B H' → Ex R R' → Ex R' H' → xs.length ≤ i → J.stop i H'
/-- the walked thing is shared (a loop) | borrowed (a comprehension) -/
def tI (f : AF) : TI := fun σ H Rr => ∃ B H0 R0 R env xs env1, SRel B H0 R0 R H σ env ∧ f env = some (xs, env1) ∧ ∀ J R1 H1, SRel B H0 R0 R1 H1 σ env1 → Ex R R1 → Ex H H1 → Wk B R1 J xs → Rr J H1
def tIb (f : AF) : TI := fun σ H Rr => ∃ B H0 R0 R env xs env1, SRel B H0 R0 R H σ env ∧ f env = some (xs, env1) ∧ ∀ J R1 H1, SRel B H0 R0 R1 H1 σ env1 → Ex R R1 → Ex H H1 → Wk H1 R1 J xs → Rr J H1
theorem _root_.L2.PI.imp {tg it : Expr} {t t' : TI} (h : PI X tg it t) (i : ∀ σ H Q, t' σ H Q → t σ H Q) : PI X tg it t' := ⟨fun pins s σ H R I q => h.run pins s σ H R I (i σ H R q)⟩
theorem wk_list' {K : PySem.W.Frag} {B R : Hp} {a : Addr} {vs : List V} {ds : List PyData} (ha : Rq B a (.lst vs)) (hd : DqAll R vs ds) : Wk B R (Itl K a) ds where
  go := fun i R' H' e _ _ hi => by
    obtain ⟨v, h1, _⟩ := dpa_get hd (List.getElem?_eq_getElem hi)
    exact ⟨vs, v, .inl (.inl (ex_rq e ha)), h1⟩
  yld := fun i R' H' x H'' d e e1 e2 hi hy => by
    obtain ⟨rfl, hy⟩ := hy
    obtain ⟨v, h1, h2⟩ := dpa_get hd hi
    have hx := hy vs (.inl (.inl (ex_rq e ha)))
    rw [h1] at hx
    cases hx
    exact ⟨R', Ex.refl R', Ex.refl _, e2, (fun b o q n => by rw [n] at q; cases q), dp_mono e1 h2⟩
  stop := fun i R' H' e _ _ hi => ⟨vs, .inl (.inl (ex_rq e ha)), by rw [dpa_len hd]; exact hi⟩
theorem wk_tup {K : PySem.W.Frag} {B R : Hp} {a : Addr} {vs : List V} {ds : List PyData} (ha : Rq B a (.tup vs)) (hd : DqAll R vs ds) : Wk B R (Itt K a) ds where
  go := fun i R' H' e _ _ hi => by
    obtain ⟨v, h1, _⟩ := dpa_get hd (List.getElem?_eq_getElem hi)
    exact ⟨vs, v, .inl (.inl (ex_rq e ha)), h1⟩
  yld := fun i R' H' x H'' d e e1 e2 hi hy => by
    obtain ⟨rfl, hy⟩ := hy
    obtain ⟨v, h1, h2⟩ := dpa_get hd hi
    have hx := hy vs (.inl (.inl (ex_rq e ha)))
    rw [h1] at hx
    cases hx
    exact ⟨R', Ex.refl R', Ex.refl _, e2, (fun b o q n => by rw [n] at q; cases q), dp_mono e1 h2⟩
  stop := fun i R' H' e _ _ hi => ⟨vs, .inl (.inl (ex_rq e ha)), by rw [dpa_len hd]; exact hi⟩
theorem wk_listR {K : PySem.W.Frag} {B R : Hp} {a : Addr} {vs : List V} {ds : List PyData} (ha : Rq R a (.lst vs)) (hd : DqAll R vs ds) : Wk B R (Itl K a) ds where
  go := fun i R' H' _ e1 e2 hi => by
    obtain ⟨v, h1, _⟩ := dpa_get hd (List.getElem?_eq_getElem hi)
    exact ⟨vs, v, .inl (.inl (ex_rq (e1.trans e2) ha)), h1⟩
  yld := fun i R' H' x H'' d _ e1 e2 hi hy => by
    obtain ⟨rfl, hy⟩ := hy
    obtain ⟨v, h1, h2⟩ := dpa_get hd hi
    have hx := hy vs (.inl (.inl (ex_rq (e1.trans e2) ha)))
    rw [h1] at hx
    cases hx
    exact ⟨R', Ex.refl R', Ex.refl _, e2, (fun b o q n => by rw [n] at q; cases q), dp_mono e1 h2⟩
  stop := fun i R' H' _ e1 e2 hi => ⟨vs, .inl (.inl (ex_rq (e1.trans e2) ha)), by rw [dpa_len hd]; exact hi⟩
theorem wk_tupR {K : PySem.W.Frag} {B R : Hp} {a : Addr} {vs : List V} {ds : List PyData} (ha : Rq R a (.tup vs)) (hd : DqAll R vs ds) : Wk B R (Itt K a) ds where
  go := fun i R' H' _ e1 e2 hi => by
    obtain ⟨v, h1, _⟩ := dpa_get hd (List.getElem?_eq_getElem hi)
    exact ⟨vs, v, .inl (.inl (ex_rq (e1.trans e2) ha)), h1⟩
  yld := fun i R' H' x H'' d _ e1 e2 hi hy => by
    obtain ⟨rfl, hy⟩ := hy
    obtain ⟨v, h1, h2⟩ := dpa_get hd hi
    have hx := hy vs (.inl (.inl (ex_rq (e1.trans e2) ha)))
    rw [h1] at hx
    cases hx
    exact ⟨R', Ex.refl R', Ex.refl _, e2, (fun b o q n => by rw [n] at q; cases q), dp_mono e1 h2⟩
  stop := fun i R' H' _ e1 e2 hi => ⟨vs, .inl (.inl (ex_rq (e1.trans e2) ha)), by rw [dpa_len hd]; exact hi⟩
def intsD (lo : Int) (n : Nat) : List PyData := (List.range n).map fun (i : Nat) => PyData.int (lo + (i : Int))
theorem intsD_len (lo : Int) (n : Nat) : (intsD lo n).length = n := by unfold intsD; rw [List.length_map, List.length_range]
theorem intsD_get {lo : Int} {n i : Nat} (h : i < n) : (intsD lo n)[i]? = some (.int (lo + (i : Int))) := by
  unfold intsD
  rw [List.getElem?_map, List.getElem?_range h]
  rfl
theorem wk_range {B R : Hp} (lo : Int) (n : Nat) : Wk B R (Itr lo n) (intsD lo n) where
  go := fun i R' H' _ _ _ hi => by rw [intsD_len] at hi; exact hi
  yld := fun i R' H' x H'' d _ _ e2 hi hy => by
    obtain ⟨rfl, rfl⟩ := hy
    have hn : i < n := by
      have := (List.getElem?_eq_some_iff.mp hi).1
      rw [intsD_len] at this
      exact this
    rw [intsD_get hn] at hi
    cases hi
    exact ⟨R', Ex.refl R', Ex.refl _, e2, (fun b o q n => by rw [n] at q; cases q), .int _⟩
  stop := fun i R' H' _ _ _ hi => by rw [intsD_len] at hi; exact hi
def iL (f : EF) : AF := fun env => match f env with
  | some (.list ds, _, e1) => some (ds, e1)
  | _ => none
def iLw (f : WF) : AF := fun env => match f env with
  | some (.list ds, e1) => some (ds, e1)
  | _ => none
def iT (f : EF) : AF := fun env => match f env with
  | some (.tuple ds, _, e1) => some (ds, e1)
  | _ => none
def iR1 (f : AF) : AF := fun env => match f env with
  | some ([.int n], e1) => if -(2 ^ 62) ≤ n ∧ n < 2 ^ 62 then some (intsD 0 n.toNat, e1) else none
  | _ => none
def iR2 (f : AF) : AF := fun env => match f env with
  | some ([.int m, .int n], e1) => if -(2 ^ 62) ≤ m ∧ m < 2 ^ 62 ∧ -(2 ^ 62) ≤ n ∧ n < 2 ^ 62 then some (intsD m (n - m).toNat, e1) else none
  | _ => none
theorem Wk.weak {B R H : Hp} {J : It} {xs : List PyData} (e : Ex B H) (w : Wk B R J xs) : Wk H R J xs :=
  ⟨fun i R' H' a b c => w.go i R' H' (e.trans a) b c, fun i R' H' x H'' d a b c => w.yld i R' H' x H'' d (e.trans a) b c, fun i R' H' a b c => w.stop i R' H' (e.trans a) b c⟩
theorem qi_b {tg it : Expr} {fa : AF} (h : PI X tg it (tI fa)) : PI X tg it (tIb fa) := PI.imp h fun σ H Q ⟨B, H0, R0, R, env, xs, e1, S, hf, k⟩ =>
  ⟨B, H0, R0, R, env, xs, e1, S, hf, fun J R1 H1 S1 i j w => k J R1 H1 S1 i j (w.weak (S1.bb.trans S1.h0))⟩
theorem qi_list {tg l : Expr} (h : PE X l (tE fe)) : PI X tg l (tI (iL fe)) := PI.imp (pi_list h) fun σ H Q ⟨B, H0, R0, R, env, xs, e1, S, hf, k⟩ => by
  unfold iL at hf
  split at hf
  · rename_i ds fr e2 hq
    cases hf
    refine ⟨B, H0, R0, R, env, _, fr, _, S, hq, fun v R' H' S' i j r => ?_⟩
    obtain ⟨R2, i2, S2, hd⟩ := r.share S'
    cases hd with
    | lst a b => exact ⟨_, rfl, ⟨_, .inl (.inl (ex_rq S2.rh a))⟩, k _ R2 H' S2 (i.trans i2) j (wk_listR a b)⟩
  · cases hf
theorem qi_listb {tg l : Expr} (h : PE X l (tW fw)) : PI X tg l (tIb (iLw fw)) := PI.imp (pi_list h) fun σ H Q ⟨B, H0, R0, R, env, xs, e1, S, hf, k⟩ => by
  unfold iLw at hf
  split at hf
  · rename_i ds e2 hq
    cases hf
    refine ⟨B, H0, R0, R, env, _, _, S, hq, fun v R' H' S' i j r => ?_⟩
    obtain ⟨a, vs, rfl, h1, h2⟩ := top_list r
    exact ⟨_, rfl, ⟨_, .inl (.inl h1)⟩, k _ R' H' S' i j (wk_list' h1 h2)⟩
  · cases hf
def iNm (i : Nat) : AF := fun env => match env[i]? with
  | some (some (d, o)) => (match tokOf d with
    | some ds => some (ds, env)
    | none => (match d with
      | .list ds => (match o with
        | false => some (ds, env)
        | true => some (ds, env.set i (some (.list ds, false))))
      | _ => none))
  | _ => none
theorem qi_nm {tg : Expr} {x : Str} (i : Nat) (h : PE X (.Name x pos) (tVar i)) : PI X tg (.Name x pos) (tI (iNm i)) := PI.imp (pi_list h) fun σ H Q ⟨B, H0, R0, R, env, xs, e1, S, hf, k⟩ => by
  unfold iNm at hf
  split at hf
  · rename_i d o hq
    split at hf
    · rename_i ds ht
      cases hf
      cases o with
      | false =>
        obtain ⟨v, h1, h2⟩ := S.slot i _ hq
        obtain ⟨a, vs, rfl, h3, h4⟩ := h2.tok ht
        exact ⟨_, h1, _, rfl, ⟨_, .inl (.inl (ex_rq (S.bb.trans S.h0) h3))⟩, k _ R H S (Ex.refl R) (Ex.refl H) (wk_list' h3 h4)⟩
      | true =>
        obtain ⟨a, vs, ds, rfl, h1, h2, h3, h4, h5⟩ := S.own i _ hq
        cases ht
    · rename_i ht
      split at hf
      · rename_i ds
        cases o with
        | false =>
          cases hf
          obtain ⟨v, h1, h2⟩ := S.slot i _ hq
          cases h2.dq ht with
          | lst a b => exact ⟨_, h1, _, rfl, ⟨_, .inl (.inl (ex_rq S.rh a))⟩, k _ R H S (Ex.refl R) (Ex.refl H) (wk_listR a b)⟩
        | true =>
          cases hf
          obtain ⟨R', v, e, S', h1, h2⟩ := S.freeze hq
          cases h2 with
          | lst a b => exact ⟨_, h1, _, rfl, ⟨_, .inl (.inl (ex_rq S'.rh a))⟩, k _ R' H S' e (Ex.refl H) (wk_listR a b)⟩
      · cases hf
  · cases hf
theorem qi_tup {tg l : Expr} (h : PE X l (tE fe)) : PI X tg l (tI (iT fe)) := PI.imp (pi_tup h) fun σ H Q ⟨B, H0, R0, R, env, xs, e1, S, hf, k⟩ => by
  unfold iT at hf
  split at hf
  · rename_i ds fr e2 hq
    cases hf
    refine ⟨B, H0, R0, R, env, _, fr, _, S, hq, fun v R' H' S' i j r => ?_⟩
    obtain ⟨R2, i2, S2, hd⟩ := r.share S'
    cases hd with
    | tup a b => exact ⟨_, rfl, ⟨_, .inl (.inl (ex_rq S2.rh a))⟩, k _ R2 H' S2 (i.trans i2) j (wk_tupR a b)⟩
  · cases hf
theorem qi_range1 {tg a : Expr} {p pos : Pos} {fa : AF} (hg : Gl X "range") (hm : X.mg "range" = none) (ha : PA X [a] (tA fa)) (hs : starEach [a] X.env = [(false, eval a X.env)] := by rfl) : PI X tg (.Call (.Name "range" p) [a] [] pos) (tI (iR1 fa)) :=
  PI.imp (pi_range1 hg hm ha hs) fun σ H Q ⟨B, H0, R0, R, env, xs, e1, S, hf, k⟩ => by
  unfold iR1 at hf
  split at hf
  · rename_i n e2 hq
    split at hf
    · rename_i hz
      cases hf
      refine ⟨B, H0, R0, R, env, _, _, S, hq, fun vs R' H' S' i j r => ?_⟩
      have hv : vs = [.int n] := dpa_ints (ns := [n]) r
      exact ⟨n, hv, hz.1, hz.2, k _ R' H' S' i j (wk_range 0 _)⟩
    · cases hf
  all_goals cases hf
theorem qi_range2 {tg a b : Expr} {p pos : Pos} {fa : AF} (hg : Gl X "range") (hm : X.mg "range" = none) (ha : PA X [a, b] (tA fa)) (hs : starEach [a, b] X.env = [(false, eval a X.env), (false, eval b X.env)] := by rfl) (hs2 : starEach [b] X.env = [(false, eval b X.env)] := by rfl) :
    PI X tg (.Call (.Name "range" p) [a, b] [] pos) (tI (iR2 fa)) :=
  PI.imp (pi_range2 hg hm ha hs hs2) fun σ H Q ⟨B, H0, R0, R, env, xs, e1, S, hf, k⟩ => by
  unfold iR2 at hf
  split at hf
  · rename_i m n e2 hq
    split at hf
    · rename_i hz
      cases hf
      refine ⟨B, H0, R0, R, env, _, _, S, hq, fun vs R' H' S' i j r => ?_⟩
      have hv : vs = [.int m, .int n] := dpa_ints (ns := [m, n]) r
      exact ⟨m, n, hv, hz, k _ R' H' S' i j (wk_range m _)⟩
    · cases hf
  all_goals cases hf
/-! for -/
def loopS (g : GF) (fb : SF) : List PyData → En → Out
  | [], env => .nx env
  | x :: xs, env => match g x env with
    | none => .bad
    | some e1 => match fb e1 with
      | .nx e2 => loopS g fb xs e2
      | .ct e2 => loopS g fb xs e2
      | .bk e2 => .nx e2
      | o => o
def sFor (fi : AF) (g : GF) (fb : SF) : SF := fun env => match fi env with
  | none => .bad
  | some (xs, e1) => loopS g fb xs e1
theorem for_ok {fi : AF} {js : List Nat} {g : GF} {fb : SF} {D : Ends} {σ : L2.St} {H : Hp} (q : tS (sFor fi g fb) D σ H) : tFor (tI fi) (tG js g) (tS fb) D σ H := by
  obtain ⟨B, H0, R0, R, env, S, q⟩ := q
  unfold sFor at q
  cases hq : fi env with
  | none => rw [hq] at q; exact q.elim
  | some r =>
    obtain ⟨xs, e1⟩ := r
    rw [hq] at q
    simp only at q
    refine ⟨B, H0, R0, R, env, xs, e1, S, hq, fun J R1 H1 S1 i1 j1 w => ?_⟩
    refine ⟨fun i m σ' H' => m = xs.length - i ∧ i ≤ xs.length ∧ ∃ R' e', SRel B H0 R0 R' H' σ' e' ∧ Ex R1 R' ∧ Good B H0 R0 R' D (loopS g fb (xs.drop i) e'), ⟨xs.length, by simp, Nat.zero_le _, R1, e1, S1, Ex.refl R1, Good.mono i1 q⟩, ?_⟩
    rintro i m σ' H' ⟨rfl, hi, R', e', S', i2, hg⟩
    by_cases hlt : i < xs.length
    · refine .inr ⟨w.go i R' H' (S'.bb.trans S'.h0) i2 S'.rh hlt, fun σ2 H2 => ∃ R2 e2, SRel B H0 R0 R2 H2 σ2 e2 ∧ Ex R1 R2 ∧ Good B H0 R0 R2 D (loopS g fb (xs.drop (i + 1)) e2), fun σ2 H2 ⟨R2, e2, h2⟩ => ⟨xs.length - (i + 1), by omega, rfl, hlt, R2, e2, h2⟩, fun x H'' hy => ?_⟩
      obtain ⟨R'', a1, a2, a3, a4, a5⟩ := w.yld i R' H' x H'' xs[i] (S'.bb.trans S'.h0) i2 S'.rh (List.getElem?_eq_getElem hlt) hy
      have S'' := S'.growR a2 a1 a3 a4
      rw [List.drop_eq_getElem_cons hlt] at hg
      unfold loopS at hg
      split at hg
      · exact hg.elim
      · rename_i e3 h3
        refine ⟨B, H0, R0, R'', e', xs[i], e3, S'', a5, h3, fun σ3 S3 _ _ => ⟨B, H0, R0, R'', e3, S3, ?_⟩⟩
        have hg' := Good.mono a1 hg
        cases hb : fb e3 with
        | nx e4 =>
          rw [hb] at hg'
          exact fun σ4 R4 H4 S4 i4 => ⟨R4, e4, S4, (i2.trans a1).trans i4, Good.mono i4 hg'⟩
        | ct e4 =>
          rw [hb] at hg'
          exact fun σ4 R4 H4 S4 i4 => ⟨R4, e4, S4, (i2.trans a1).trans i4, Good.mono i4 hg'⟩
        | bk e4 => rw [hb] at hg'; exact hg'
        | rt d fr => rw [hb] at hg'; exact hg'
        | bad => rw [hb] at hg'; exact hg'
    · refine .inl ⟨w.stop i R' H' (S'.bb.trans S'.h0) i2 S'.rh (by omega), ?_⟩
      rw [List.drop_eq_nil_of_le (by omega)] at hg
      exact hg σ' R' H' S' (Ex.refl R')
theorem qs_for {tg iter : Expr} {fi : AF} {js : List Nat} {g : GF} {fb : SF} (hp : PassesOwn (model X.prog X.w) X.A X.env X.xe) (hc : X.calm = true) (hi : PI X tg iter (tI fi)) (hg : PG X tg (tG js g)) (hb : PSs X body (tS fb)) (hs : ∀ x, foldedSetIterable iter X.env x = pure x := by intro _; rfl) :
    PS X (.For tg iter body [] pos) (tS (sFor fi g fb)) := PS.imp (ps_for hp hc hi hg hb hs) fun D σ H q => for_ok q
/-! while -/
def whileS (c : TF) (fb : SF) : Nat → En → Out
  | 0, _ => .bad
  | n + 1, env => match c env with
    | none => .bad
    | some (false, e1) => .nx e1
    | some (true, e1) => match fb e1 with
      | .nx e2 => whileS c fb n e2
      | .ct e2 => whileS c fb n e2
      | .bk e2 => .nx e2
      | o => o
theorem while_ok {c : TF} {fb : SF} {D : Ends} {σ : L2.St} {H : Hp} (n : Nat) (q : tS (whileS c fb n) D σ H) : tWhile (tT c) (tS fb) D σ H := by
  obtain ⟨B, H0, R0, R, env, S, q⟩ := q
  refine ⟨fun m σ' H' => ∃ R' e', SRel B H0 R0 R' H' σ' e' ∧ Good B H0 R0 R' D (whileS c fb m e'), ⟨n, R, env, S, q⟩, fun m σ' H' ⟨R', e', S', hg⟩ => ?_⟩
  cases m with
  | zero => exact hg.elim
  | succ m =>
    unfold whileS at hg
    split at hg
    · exact hg.elim
    · rename_i e1 h1
      exact ⟨B, H0, R0, R', e', false, e1, S', h1, fun R1 H1 S1 i j => iteF (hg σ' R1 H1 S1 i)⟩
    · rename_i e1 h1
      refine ⟨B, H0, R0, R', e', true, e1, S', h1, fun R1 H1 S1 i j => iteT ⟨fun σ2 H2 => ∃ R2 e2, SRel B H0 R0 R2 H2 σ2 e2 ∧ Good B H0 R0 R2 D (whileS c fb m e2), fun σ2 H2 h2 => ⟨m, Nat.lt_succ_self m, h2⟩, B, H0, R0, R1, e1, S1, ?_⟩⟩
      have hg' := Good.mono i hg
      cases hb : fb e1 with
      | nx e4 =>
        rw [hb] at hg'
        exact fun σ4 R4 H4 S4 i4 => ⟨R4, e4, S4, Good.mono i4 hg'⟩
      | ct e4 =>
        rw [hb] at hg'
        exact fun σ4 R4 H4 S4 i4 => ⟨R4, e4, S4, Good.mono i4 hg'⟩
      | bk e4 => rw [hb] at hg'; exact hg'
      | rt d fr => rw [hb] at hg'; exact hg'
      | bad => rw [hb] at hg'; exact hg'
theorem qs_while {c : Expr} {fb : SF} (n : Nat) (hp : PassesOwn (model X.prog X.w) X.A X.env X.xe) (hc : PT X c (tT ft)) (hb : PSs X body (tS fb)) : PS X (.While c body [] pos) (tS (whileS ft fb n)) := PS.imp (ps_while hp hc hb) fun D σ H q => while_ok n q
/-! comprehensions -/
def wipeE (env : En) : List Nat → En
  | [] => env
  | v :: vs => (wipeE env vs).set v none
def lcLoop (g : GF) (ft : TF) (fe : EF) (vs : List Nat) : List PyData → En → Option (List PyData × En)
  | [], env => some ([], env)
  | x :: xs, env => match g x env with
    | none => none
    | some e1 => match ft e1 with
      | none => none
      | some (true, e2) => (match fe e2 with
        | none => none
        | some (d, _, e3) => (match lcLoop g ft fe vs xs (wipeE e3 vs) with
          | none => none
          | some (ds, e4) => some (d :: ds, e4)))
      | some (false, e2) => lcLoop g ft fe vs xs (wipeE e2 vs)
def eLc (fi : AF) (g : GF) (ft : TF) (fe : EF) (vs : List Nat) : EF := fun env => match fi env with
  | none => none
  | some (xs, e1) => if xs.length ≤ 1000 then (match lcLoop g ft fe vs xs (wipeE e1 vs) with
    | none => none
    | some (ds, e2) => some (.list ds, true, e2)) else none
end
section
variable {B H0 R0 R R' H H' : Hp} {σ : L2.St} {env env' : En} {v : V} {d : PyData} {fr : Bool} {D : Ends}
theorem SRel.wipe (S : SRel B H0 R0 R H σ env) : ∀ vs : List Nat, SRel B H0 R0 R H (L2.wipe σ vs) (wipeE env vs)
  | [] => S
  | v :: vs => by
    have S' := SRel.wipe S vs
    show SRel B H0 R0 R H ((L2.wipe σ vs).set v none) ((wipeE env vs).set v none)
    by_cases hv : v < (wipeE env vs).length
    · have old : ∀ (j : Nat) (x : PyData × Bool), ((wipeE env vs).set v none)[j]? = some (some x) → j ≠ v ∧ (wipeE env vs)[j]? = some (some x) := fun j x q => by
        by_cases hj : j = v
        · subst hj
          rw [List.getElem?_set_self hv] at q
          cases q
        · rw [List.getElem?_set_ne (Ne.symm hj)] at q
          exact ⟨hj, q⟩
      have oldσ : ∀ (j : Nat), j ≠ v → ((L2.wipe σ vs).set v none)[j]? = (L2.wipe σ vs)[j]? := fun j hj => List.getElem?_set_ne (Ne.symm hj)
      refine ⟨S'.rh, S'.r0, S'.h0, S'.bb, S'.new, fun j x q => ?_, fun j x q => ?_, fun j k x y b hjk q1 q2 q3 q4 => ?_, by rw [List.length_set, List.length_set]; exact S'.len⟩
      · obtain ⟨a, b⟩ := old j _ q
        rw [oldσ j a]
        exact S'.slot j x b
      · obtain ⟨a, b⟩ := old j _ q
        rw [oldσ j a]
        exact S'.own j x b
      · obtain ⟨a1, b1⟩ := old j _ q1
        obtain ⟨a2, b2⟩ := old k _ q2
        rw [oldσ j a1] at q3
        rw [oldσ k a2] at q4
        exact S'.dis j k x y b hjk b1 b2 q3 q4
    · have h2 : (L2.wipe σ vs).length ≤ v := by rw [S'.len]; omega
      rw [List.set_eq_of_length_le h2, List.set_eq_of_length_le (by omega)]
      exact S'
/-- back to the slots as they were -/
theorem SRel.unwipe {vs : List Nat} (S : SRel B H0 R0 R H (L2.wipe σ vs) env) : SRel B H0 R0 R H σ env :=
  ⟨S.rh, S.r0, S.h0, S.bb, S.new, fun i d q => by
    obtain ⟨v, h1, h2⟩ := S.slot i d q
    exact ⟨v, (wipe_some h1).1, h2⟩, fun i d q => by
    obtain ⟨a, ws, ds, h0, h1, h2⟩ := S.own i d q
    exact ⟨a, ws, ds, h0, (wipe_some h1).1, h2⟩, fun j k x y b hjk q1 q2 q3 q4 => by
    obtain ⟨a, ws, ds, _, h1, _⟩ := S.own j x q1
    obtain ⟨a', ws', ds', _, h1', _⟩ := S.own k y q2
    have e1 := (wipe_some h1).1
    have e2 := (wipe_some h1').1
    rw [q3] at e1
    rw [q4] at e2
    cases e1
    cases e2
    exact S.dis j k x y b hjk q1 q2 h1 h1', by rw [← S.len, wipe_length]⟩
theorem wipe_agree {σ' : L2.St} {vs js : List Nat} (hj : ∀ j ∈ js, j ∈ vs) (hl : σ'.length = σ.length) (h : ∀ i, i ∉ js → σ'[i]? = (L2.wipe σ vs)[i]?) : L2.wipe σ' vs = L2.wipe σ vs := by
  have wi : ∀ (τ : L2.St) (vs : List Nat) (i : Nat), (L2.wipe τ vs)[i]? = if i ∈ vs ∧ i < τ.length then some none else τ[i]? := fun τ vs i => by
    induction vs with
    | nil =>
      show τ[i]? = _
      rw [if_neg (by simp)]
    | cons v vs ih =>
      show ((L2.wipe τ vs).set v none)[i]? = _
      by_cases hv : v = i
      · subst hv
        by_cases hlt : v < τ.length
        · rw [List.getElem?_set_self (by rw [wipe_length]; exact hlt), if_pos ⟨List.mem_cons_self, hlt⟩]
        · rw [List.getElem?_eq_none (by rw [List.length_set, wipe_length]; omega), if_neg (fun z => hlt z.2), List.getElem?_eq_none (by omega)]
      · rw [List.getElem?_set_ne hv, ih]
        have : (i ∈ v :: vs ∧ i < τ.length) ↔ (i ∈ vs ∧ i < τ.length) := by
          rw [List.mem_cons]
          exact ⟨fun z => ⟨z.1.elim (fun y => absurd y.symm hv) id, z.2⟩, fun z => ⟨.inr z.1, z.2⟩⟩
        by_cases hc : i ∈ vs ∧ i < τ.length
        · rw [if_pos hc, if_pos (this.mpr hc)]
        · rw [if_neg hc, if_neg (fun z => hc (this.mp z))]
  refine List.ext_getElem? fun i => ?_
  rw [wi, wi, hl]
  by_cases hc : i ∈ vs ∧ i < σ.length
  · rw [if_pos hc, if_pos hc]
  · rw [if_neg hc, if_neg hc]
    by_cases hij : i ∈ js
    · have h1 : ¬ i < σ.length := fun z => hc ⟨hj i hij, z⟩
      rw [List.getElem?_eq_none (by omega), List.getElem?_eq_none (by omega)]
    · rw [h i hij, wi, if_neg hc]
end
section
variable {X : Cx} {st : Stmt} {rest body : List Stmt} {e a b : Expr} {pos : Pos} {f g : SF} {fe : EF} {fw : WF} {ft : TF}
theorem SRel.lower {B H0 H0' R0 R H : Hp} {σ : L2.St} {env : En} (eb : Ex B H0) (e : Ex H0 H0') (S : SRel B H0' R0 R H σ env) : SRel B H0 R0 R H σ env :=
  ⟨S.rh, S.r0, e.trans S.h0, eb, fun b o q n => fresh_back e (S.new b o q n), S.slot, fun i d q => by
    obtain ⟨a, ws, ds, h0, h1, h2, h3, h4, h5⟩ := S.own i d q
    exact ⟨a, ws, ds, h0, h1, h2, h3, fresh_back e h4, h5⟩, S.dis, S.len⟩
theorem SRel.raise {B H0 R0 R H : Hp} {σ : L2.St} {env : En} {a : Addr} {o : HO} (S : SRel B H0 R0 R H σ env) (h : H a = some o) (n : R a = none) (ap : Apart σ env a) : SRel B (upd H0 a o) R0 R H σ env := by
  refine ⟨S.rh, S.r0, fun b u q => ?_, fun b u q => ?_, fun b u q z => ?_, S.slot, fun i d q => ?_, S.dis, S.len⟩
  · by_cases hb : b = a
    · subst hb
      rw [upd_same] at q
      cases q
      exact h
    · rw [upd_ne hb] at q
      exact S.h0 b u q
  · by_cases hb : b = a
    · subst hb
      rw [upd_same, ← h]
      exact S.h0 b u (S.bb b u q)
    · rw [upd_ne hb]
      exact S.bb b u q
  · have hb : b ≠ a := ne_of_none q n
    rw [upd_ne hb]
    exact S.new b u q z
  · obtain ⟨c, ws, ds, h0, h1, h2, h3, h4, h5⟩ := S.own i d q
    have hc : c ≠ a := fun z => ap i d q (by rw [← z]; exact h1)
    exact ⟨c, ws, ds, h0, h1, h2, h3, by rw [upd_ne hc]; exact h4, h5⟩
/-- what is known of a cell that was put ahead of the entry -/
theorem SRel.held {B H0 R0 R H : Hp} {σ : L2.St} {env : En} {a : Addr} {o : HO} (S : SRel B (upd H0 a o) R0 R H σ env) (n : R0 a = none) : H a = some o ∧ R a = none ∧ Apart σ env a := by
  refine ⟨S.h0 a o upd_same, ?_, fun i d q z => ?_⟩
  · cases h : R a with
    | none => rfl
    | some u =>
      have := S.new a u h n
      rw [upd_same] at this
      cases this
  · obtain ⟨c, ws, ds, h0, h1, h2, h3, h4, h5⟩ := S.own i d q
    rw [z] at h1
    cases h1
    rw [upd_same] at h4
    cases h4
theorem lc_ok {fi : AF} {js vs : List Nat} {g : GF} (hjs : ∀ j ∈ js, j ∈ vs) {σ : L2.St} {H : Hp} {Q : VK} (q : tE (eLc fi g ft fe vs) σ H Q) : tLc (tIb fi) (tG js g) (tT ft) (tE fe) vs σ H Q := by
  obtain ⟨B, H0, R0, R, env, d, fr, env', S, hf, k⟩ := q
  unfold eLc at hf
  cases hq : fi env with
  | none => rw [hq] at hf; cases hf
  | some r =>
    obtain ⟨xs, e1⟩ := r
    rw [hq] at hf
    simp only at hf
    split at hf
    · rename_i hz
      cases hq2 : lcLoop g ft fe vs xs (wipeE e1 vs) with
      | none => rw [hq2] at hf; cases hf
      | some r =>
        obtain ⟨ds, e2⟩ := r
        rw [hq2] at hf
        cases hf
        refine ⟨B, H0, R0, R, env, xs, e1, S, hq, fun J R1 H1 S1 i1 j1 w Dl hD => ?_⟩
        obtain ⟨nR, n0, nA⟩ := S1.fresh hD
        have nR0 : R0 Dl = none := fresh_back S1.r0 nR
        have tot : ∀ acc rest : List PyData, acc ++ rest = ds → True := fun _ _ _ => trivial
        refine ⟨fun i m H' => m = xs.length - i ∧ i ≤ xs.length ∧ ∃ R' e' acc wsV rest, SRel B H0 R0 R' H' (L2.wipe σ vs) e' ∧ Ex R1 R' ∧ Ex H1 H' ∧ R' Dl = none ∧ Apart (L2.wipe σ vs) e' Dl ∧ H' Dl = some (.lst wsV) ∧ DqAll R' wsV acc ∧
          lcLoop g ft fe vs (xs.drop i) e' = some (rest, env') ∧ acc ++ rest = ds ∧ acc.length ≤ i, ⟨xs.length, by simp, Nat.zero_le _, R1, wipeE e1 vs, [], [], ds, ?_, Ex.refl R1, Ex.new hD, nR, ?_, upd_same, .nil, hq2, rfl, Nat.le_refl _⟩, ?_⟩
        · exact ((S1.wipe vs).other nR n0 ((S1.wipe vs).fresh hD).2.2)
        · exact ((S1.wipe vs).fresh hD).2.2
        · rintro i m H' ⟨rfl, hi, R', e', acc, wsV, rest, S', i2, j2, nR', nA', hD', hacc, hl, hrest, hai⟩
          by_cases hlt : i < xs.length
          · refine .inr ⟨w.go i R' H' j2 i2 S'.rh hlt, fun H2 => ∃ R2 e2 acc wsV rest, SRel B H0 R0 R2 H2 (L2.wipe σ vs) e2 ∧ Ex R1 R2 ∧ Ex H1 H2 ∧ R2 Dl = none ∧ Apart (L2.wipe σ vs) e2 Dl ∧ H2 Dl = some (.lst wsV) ∧ DqAll R2 wsV acc ∧
              lcLoop g ft fe vs (xs.drop (i + 1)) e2 = some (rest, env') ∧ acc ++ rest = ds ∧ acc.length ≤ i + 1, fun H2 ⟨R2, e2, acc2, ws2, rest2, h2⟩ => ⟨xs.length - (i + 1), by omega, rfl, hlt, R2, e2, acc2, ws2, rest2, h2⟩, fun x H'' hy => ?_⟩
            obtain ⟨R'', a1, a2, a3, a4, a5⟩ := w.yld i R' H' x H'' xs[i] j2 i2 S'.rh (List.getElem?_eq_getElem hlt) hy
            have S'' := (S'.raise hD' nR' nA').growR a2 a1 a3 (fun b o q z => a4 b o q z)
            rw [List.drop_eq_getElem_cons hlt] at hl
            unfold lcLoop at hl
            split at hl
            · cases hl
            · rename_i e3 h3
              refine ⟨B, _, R0, R'', e', xs[i], e3, S'', a5, h3, fun σ3 S3 n3 l3 => ?_⟩
              have hw3 : L2.wipe σ3 vs = L2.wipe σ vs := wipe_agree hjs (l3.trans (wipe_length σ vs)) n3
              refine ⟨hw3, ?_⟩
              split at hl
              · cases hl
              · rename_i e4 h4
                refine ⟨B, _, R0, R'', e3, true, e4, S3, h4, fun R5 H5 S5 i5 j5 => iteT ?_⟩
                split at hl
                · cases hl
                · rename_i dd frr e6 h6
                  split at hl
                  · cases hl
                  · rename_i rest' e7 h7
                    cases hl
                    refine ⟨B, _, R0, R5, e4, dd, frr, e6, S5, h6, fun y R6 H6 S6 i6 j6 r6 => ?_⟩
                    obtain ⟨R7, i7, S7, hd7⟩ := r6.share S6
                    obtain ⟨p1, p2, p3⟩ := S7.held nR0
                    have S8 : SRel B (upd H0 Dl (.lst wsV)) R0 R7 H6 (L2.wipe σ vs) (wipeE e6 vs) := by rw [← hw3]; exact S7.wipe vs
                    have big : Ex R' R7 := ((a1.trans i5).trans i6).trans i7
                    refine ⟨wsV, p1, ?_, R7, wipeE e6 vs, acc ++ [dd], wsV ++ [y], rest', ?_, i2.trans big, Ex.mut (((j2.trans a2).trans j5).trans j6) hD, p2, (S8.held nR0).2.2, upd_same, dpa_app (dpa_mono big hacc) (.cons hd7 .nil), h7, ?_, ?_⟩
                    · rw [dpa_len hacc]
                      exact Nat.lt_of_le_of_lt (show acc.length ≤ 1000 by omega) (by decide)
                    · exact (S8.lower S1.bb (Ex.new n0)).other p2 n0 (S8.held nR0).2.2
                    · rw [List.append_assoc]
                      exact hrest
                    · rw [List.length_append]
                      exact Nat.succ_le_succ hai
              · rename_i e4 h4
                refine ⟨B, _, R0, R'', e3, false, e4, S3, h4, fun R5 H5 S5 i5 j5 => iteF ?_⟩
                obtain ⟨p1, p2, p3⟩ := S5.held nR0
                have S8 : SRel B (upd H0 Dl (.lst wsV)) R0 R5 H5 (L2.wipe σ vs) (wipeE e4 vs) := by rw [← hw3]; exact S5.wipe vs
                have big : Ex R' R5 := a1.trans i5
                exact ⟨R5, wipeE e4 vs, acc, wsV, rest, S8.lower S1.bb (Ex.new n0), i2.trans big, (j2.trans a2).trans j5, p2, (S8.held nR0).2.2, p1, dpa_mono big hacc, hl, hrest, by omega⟩
          · rw [List.drop_eq_nil_of_le (by omega)] at hl
            unfold lcLoop at hl
            cases hl
            rw [List.append_nil] at hrest
            subst hrest
            refine .inl ⟨w.stop i R' H' j2 i2 S'.rh (by omega), ?_⟩
            refine k _ R' H' S'.unwipe (i1.trans i2) (j1.trans j2) ⟨Dl, wsV, acc, rfl, rfl, hD', nR', n0, hacc, fun j x q z => ?_⟩
            obtain ⟨c, ws, es, _, g1, _⟩ := S'.own j x q
            have g2 := (wipe_some g1).1
            rw [z] at g2
            cases g2
            exact nA' j x q g1
    · cases hf
def gTst : TF := fun env => some (true, env)
theorem qts_nil : PTs X [] (tT gTst) := ⟨fun pins s σ H Q I ⟨B, H0, R0, R, env, b, env', S, hf, k⟩ => by
  cases hf
  exact (pts_nil (X := X)).run pins s σ H Q I (k R H S (Ex.refl R) (Ex.refl H))⟩
theorem qts_one {c : Expr} (h : PT X c (tT ft)) : PTs X [c] (tT ft) := pts_one h
end
end Fw
namespace Fw
open PySem PySem.Spec PyProof.Rows L2 Evl

section
variable {X : Cx} {st : Stmt} {rest body : List Stmt} {e a b : Expr} {pos : Pos} {f g : SF} {fe : EF} {fw fa fb fc : WF} {ft : TF}
theorem qe_lc {elt tg iter : Expr} {ifs : List Expr} {scope : Scope} {own : List (Str × Nat)} {fi : AF} {gt : GF} {js vs : List Nat} (hc : X.calm = true) (hN : X.N.Nodup) (hi : PI X tg iter (tIb fi)) (ok : BlkOk X.N X.env.scope scope own)
    (hg : ∀ (s : Shared) (H : Hp) (C : Addr) (cl : List (Str × Addr)) (fp : List Addr), PG (X.blk s H scope (compEnvC scope cl C X.env) fp) tg (tG js gt)) (ht : ∀ (s : Shared) (H : Hp) (C : Addr) (cl : List (Str × Addr)) (fp : List Addr), PTs (X.blk s H scope (compEnvC scope cl C X.env) fp) ifs (tT ft))
    (he : ∀ (s : Shared) (H : Hp) (C : Addr) (cl : List (Str × Addr)) (fp : List Addr), PE (X.blk s H scope (compEnvC scope cl C X.env) fp) elt (tE fe)) (hjs : ∀ j ∈ js, j ∈ vs) (hv : own.map (·.2) = vs := by rfl) (hs : ∀ x, foldedSetIterable iter X.env x = pure x := by intro _; rfl) :
    PE X (.ListComp elt [⟨tg, iter, ifs, 0⟩] scope pos) (tE (eLc fi gt ft fe vs)) := PE.imp (pe_lc hc hN hi ok hg ht he hs) fun σ H Q q => by subst hv; exact lc_ok hjs q
theorem qs_setLc {i : Nat} {y : Str} {py : Pos} {elt tg iter : Expr} {ifs : List Expr} {scope : Scope} {own : List (Str × Nat)} {spos : Pos} {fi : AF} {gt : GF} {js vs : List Nat} (hc : X.calm = true) (hN : X.N.Nodup) (hy : X.N[i]? = some y) (hyl : X.env.scope.names.lookup y = some .local)
    (hsw : swapsWith (.ListComp elt [⟨tg, iter, ifs, 0⟩] scope pos) (some (.Name y py)) spos.line X.env = pure true) (hi : PI X tg iter (tIb fi)) (ok : BlkOk X.N X.env.scope scope own)
    (hg : ∀ (s : Shared) (H : Hp) (C : Addr) (cl : List (Str × Addr)) (fp : List Addr), PG (X.blk s H scope (compEnvC scope cl C X.env) fp) tg (tG js gt)) (ht : ∀ (s : Shared) (H : Hp) (C : Addr) (cl : List (Str × Addr)) (fp : List Addr), PTs (X.blk s H scope (compEnvC scope cl C X.env) fp) ifs (tT ft))
    (he : ∀ (s : Shared) (H : Hp) (C : Addr) (cl : List (Str × Addr)) (fp : List Addr), PE (X.blk s H scope (compEnvC scope cl C X.env) fp) elt (tE fe)) (hjs : ∀ j ∈ js, j ∈ vs) (hv : own.map (·.2) = vs := by rfl) (hs : ∀ x, foldedSetIterable iter X.env x = pure x := by intro _; rfl) :
    PS X (.Assign [.Name y py] (.ListComp elt [⟨tg, iter, ifs, 0⟩] scope pos) spos) (tS (sSet i (eLc fi gt ft fe vs))) :=
  PS.imp (ps_setLc hc hN hy hyl hsw hi ok hg ht he hs) fun D σ H q => by
    subst hv
    have q := setS_ok q
    exact lc_ok (Q := fun x H1 => gName i x σ H1 D.nx) hjs q
def eNeg (f : EF) : EF := fun env => match f env with
  | some (.int i, _, e1) => some (.int (-i), false, e1)
  | _ => none
theorem qe_neg (h : PE X a (tE fe)) : PE X (.UnaryOp .USub a pos) (tE (eNeg fe)) := PE.imp (pe_un un_neg h) fun σ H Q q => by
  obtain ⟨B, H0, R0, R, env, d, fr, env', S, hf, k⟩ := q
  unfold eNeg at hf
  split at hf
  · rename_i i fr' e1 h1
    cases hf
    refine ⟨B, H0, R0, R, env, .int i, fr', _, S, h1, fun x R1 H1 S1 i1 j1 r1 => ?_⟩
    have ex := top_int (r1.top S1)
    subst ex
    exact ⟨i, rfl, k _ R1 H1 S1 i1 j1 (.int _)⟩
  · cases hf
theorem chain_ok {r r' : R2} {g1 g2 : PyData → PyData → Option (PyData × Bool)} (h1 : OpD r g1) (h2 : OpD r' g2) {σ : L2.St} {H : Hp} {Q : VK} (q : tE (eChain g1 g2 fa fb fc) σ H Q) : tChain r r' (tW fa) (tW fb) (tW fc) σ H Q := by
  obtain ⟨B, H0, R0, R, env, d, fr, env', S, hf, k⟩ := q
  unfold eChain at hf
  split at hf
  · cases hf
  · rename_i x e1 g1'
    split at hf
    · cases hf
    · rename_i y e2 g2'
      refine ⟨B, H0, R0, R, env, x, e1, S, g1', fun u R1 H1 S1 i1 j1 t1 => ⟨B, H0, R0, R1, e1, y, e2, S1, g2', fun w R2 H2 S2 i2 j2 t2 => ?_⟩⟩
      split at hf
      · rename_i hg
        refine h1 R2 H2 u w x y _ _ _ S2.rh (top_mono i2 j2 t1) t2 hg (S2.cont fun z R3 H3 S3 i3 j3 r3 => ⟨true, top_bl (r3.top S3), iteT ?_⟩)
        split at hf
        · cases hf
        · rename_i z' e3 g3'
          split at hf
          · rename_i b hg2
            cases hf
            refine ⟨B, H0, R0, R3, e2, z', _, S3, g3', fun w' R4 H4 S4 i4 j4 t4 => ?_⟩
            exact h2 R4 H4 w w' y z' _ _ Q S4.rh (top_mono (i3.trans i4) (j3.trans j4) t2) t4 hg2 (S4.cont fun v R' H' S' e1 e2 r => k v R' H' S' ((((i1.trans i2).trans i3).trans i4).trans e1) ((((j1.trans j2).trans j3).trans j4).trans e2) r)
          · cases hf
      · rename_i hg
        cases hf
        refine h1 R2 H2 u w x y _ _ _ S2.rh (top_mono i2 j2 t1) t2 hg (S2.cont fun z R3 H3 S3 i3 j3 r3 => ⟨false, top_bl (r3.top S3), iteF ?_⟩)
        exact k _ R3 H3 S3 ((i1.trans i2).trans i3) ((j1.trans j2).trans j3) (.bl false)
      · cases hf
theorem qe_chain {op op' : CmpOp} {c : Expr} {r r' : R2} {g1 g2 : PyData → PyData → Option (PyData × Bool)} (ho : OpR X (compareOp op) r) (h1 : OpD r g1) (ho' : OpR X (compareOp op') r') (h2 : OpD r' g2) (ha : PE X a (tW fa)) (hb : PE X b (tW fb)) (hc : PE X c (tW fc))
    (hm : lastMarks [op, op'] [b, c] = false := by with_unfolding_all rfl) : PE X (.Compare a [op, op'] [b, c] pos) (tE (eChain g1 g2 fa fb fc)) := PE.imp (pe_chain ho ho' ha hb hc hm) fun σ H Q q => chain_ok h1 h2 q
theorem qt_chain {op op' : CmpOp} {c : Expr} {r r' : R2} {g1 g2 : PyData → PyData → Option (PyData × Bool)} (ho : OpR X (compareOp op) r) (h1 : OpD r g1) (ho' : OpR X (compareOp op') r') (h2 : OpD r' g2) (ha : PE X a (tW fa)) (hb : PE X b (tW fb)) (hc : PE X c (tW fc))
    (hm : lastMarks [op, op'] [b, c] = false := by with_unfolding_all rfl) : PT X (.Compare a [op, op'] [b, c] pos) (tT (tstE (eChain g1 g2 fa fb fc))) := PT.imp (pt_chain ho ho' ha hb hc hm) fun σ H Q q => chain_ok h1 h2 (tst_ok q)
end

/-! defs -/
def slotOf : Bool → PyData → PyData
  | true, .list ds => tokD ds
  | _, d => d
def envOf (N : Nat) (ms : List Bool) (ds : List PyData) : En := (List.zipWith slotOf ms ds).map (fun d => some (d, false)) ++ List.replicate (N - ds.length) none
def outR : Out → Option (PyData × Bool)
  | .rt d fr => some (d, fr)
  | .nx _ => some (.none, false)
  | _ => none
theorem slot_top {B R : Hp} {v : V} {d : PyData} (e : Ex R B) (h : Top R B v d) : SlotOk B R v (slotOf true d) := by
  rcases h with ⟨a, vs, ds, rfl, rfl, h1, h2⟩ | ⟨hn, h⟩
  · exact .inr ⟨a, vs, ds, rfl, rfl, h1, h2⟩
  · have : slotOf true d = d := by
      cases d with
      | list ds => exact absurd rfl (hn ds)
      | _ => rfl
    rw [this]
    exact .of h
theorem slot_dq {B R : Hp} {m : Bool} {v : V} {d : PyData} (e : Ex R B) (h : Dq R v d) : SlotOk B R v (slotOf m d) := by
  cases m with
  | true => exact slot_top e (top_of_dp e h)
  | false =>
    have : slotOf false d = d := by cases d <;> rfl
    rw [this]
    exact .of h
theorem args_slots {R H : Hp} (e : Ex R H) : ∀ {ms : List Bool} {vs : List V} {ds : List PyData}, ArgAll R H ms vs ds → ∀ (i : Nat) (d : PyData), (List.zipWith slotOf ms ds)[i]? = some d → ∃ v, vs[i]? = some v ∧ SlotOk H R v d
  | _, _, _, .nil, i, d, h => by simp at h
  | _, _, _, .sh p q, 0, d, h => by
    cases h
    exact ⟨_, rfl, slot_dq e p⟩
  | _, _, _, .rd p q, 0, d, h => by
    cases h
    exact ⟨_, rfl, slot_top e p⟩
  | _, _, _, .sh p q, i + 1, d, h => args_slots e q i d h
  | _, _, _, .rd p q, i + 1, d, h => args_slots e q i d h
theorem srel_start {H R : Hp} {N : List Str} {ms : List Bool} {vs : List V} {ds : List PyData} (e : Ex R H) (h : ArgAll R H ms vs ds) : SRel H H R R H (L2.start N vs) (envOf N.length ms ds) := by
  obtain ⟨hl, hm⟩ := h.len
  have zl : (List.zipWith slotOf ms ds).length = ds.length := by rw [List.length_zipWith, hm, Nat.min_self]
  have get : ∀ (i : Nat) (d : PyData) (b : Bool), (envOf N.length ms ds)[i]? = some (some (d, b)) → b = false ∧ (List.zipWith slotOf ms ds)[i]? = some d := fun i d b q => by
    unfold envOf at q
    by_cases hi : i < (List.zipWith slotOf ms ds).length
    · rw [List.getElem?_append_left (by rw [List.length_map]; exact hi), List.getElem?_map, List.getElem?_eq_getElem hi] at q
      cases q
      exact ⟨rfl, List.getElem?_eq_getElem hi⟩
    · rw [List.getElem?_append_right (by rw [List.length_map]; omega), List.getElem?_replicate] at q
      split at q <;> cases q
  refine ⟨e, Ex.refl R, Ex.refl H, Ex.refl H, fun b o q n => (by rw [n] at q; cases q), fun i d q => ?_, fun i d q => ?_, fun i j d x a _ q => ?_, ?_⟩
  · obtain ⟨_, h1⟩ := get i d false q
    obtain ⟨v, h2, h3⟩ := args_slots e h i d h1
    refine ⟨v, ?_, h3⟩
    have hi : i < vs.length := (List.getElem?_eq_some_iff.mp h2).1
    unfold L2.start
    rw [List.getElem?_append_left (by rw [List.length_map]; exact hi), List.getElem?_map, h2]
    rfl
  · have := (get i d true q).1
    cases this
  · have := (get i d true q).1
    cases this
  · unfold L2.start envOf
    simp only [List.length_append, List.length_map, List.length_replicate, hl, zl]
/-- a def that stands at a name of the module and keeps a pure promise -/
structure Has (P : Program) (w : World) (K : PySem.W.Frag) (mg : Str → Option Value) (base : Heap) (k : Nat) (x : Str) (g : List PyData → Option (PyData × Bool)) (ms : List Bool) : Prop where
  ex : ∃ (f : Addr) (fd : FuncData) (ps : List Str), mg x = some (.ref f) ∧ PySem.W.keepIn K (.ref f) = true ∧ Binds K fd ps [] ∧ FnOk P w K mg base CX0 k f fd ps (spD g ms)
section
variable {P : Program} {w : World} {K : PySem.W.Frag} {mg : Str → Option Value} {base : Heap}
theorem fn_pure {x qual : Str} {st : Stmt} {f : Addr} {fd : FuncData} {N ps : List Str} {k : Nat} {ms : List Bool} {g : List PyData → Option (PyData × Bool)} (F : Fun K x qual st f fd) (S : FnScope N ps (defScope st)) (hn : ps.length = ms.length)
    (hbody : ∀ (cdv : Value) (A : Around) (outer : List Env) (s : Shared) (H : Hp) (E : XK), Room k (A.deeper (envOfC qual (defScope st) s.heap.objs.size f cdv)) →
      ∃ fs : SF, PSs (cxOf CX0 P w K mg base N qual (defScope st) f cdv A outer s H E).nox (defBody st) (tS fs) ∧ ∀ ds d fr, ds.length = ms.length → g ds = some (d, fr) → outR (fs (envOf N.length ms ds)) = some (d, fr)) :
    FnOk P w K mg base CX0 (k + 1) f fd ps (spD g ms) := by
  refine F.ok S (fun vs H Q E h => ?_) (fun cdv A outer s H vs Q E hr h => ?_)
  · obtain ⟨R, ds, d, fr, _, ha, _⟩ := h
    obtain ⟨h1, h2⟩ := ha.len
    omega
  · obtain ⟨R, ds, d, fr, e, hd, hg, kq⟩ := h
    obtain ⟨fs, hp, hq⟩ := hbody cdv A outer s H E hr
    refine ⟨tS fs, hp, H, H, R, R, envOf N.length ms ds, srel_start e hd, ?_⟩
    have := hq ds d fr hd.len.2.symm hg
    cases ho : fs (envOf N.length ms ds) with
    | rt d' fr' =>
      rw [ho] at this
      cases this
      exact kq
    | nx e' =>
      rw [ho] at this
      cases this
      intro σ' R' H' S' _
      exact kq .non R' H' S'.r0 S'.h0 S'.rh S'.new .non
    | bk _ => rw [ho] at this; cases this
    | ct _ => rw [ho] at this; cases this
    | bad => rw [ho] at this; cases this
theorem has_mk {x : Str} {f : Addr} {fd : FuncData} {ps : List Str} {k : Nat} {ms : List Bool} {g : List PyData → Option (PyData × Bool)} (hm : mg x = some (.ref f)) (hk : PySem.W.keepIn K (.ref f) = true) (hb : Binds K fd ps []) (F : FnOk P w K mg base CX0 k f fd ps (spD g ms)) : Has P w K mg base k x g ms := ⟨f, fd, ps, hm, hk, hb, F⟩
end
section
variable {X : Cx}
theorem qe_callH {k : Nat} {ms : List Bool} {g : List PyData → Option (PyData × Bool)} {x : Str} {p pos : Pos} {e : Expr} {es : List Expr} {fa : AF} (h : Has X.prog X.w X.K X.mg X.base k x g ms) (hr : Room k X.A) (hg : Gl X x) (ha : PA X (e :: es) (tM ms fa))
    (hdb : (x == ("__debug__" : Str)) = false := by decide) (he : starEach (e :: es) X.env = (false, eval e X.env) :: starEach es X.env := by rfl) (hpl : (backTo pos (starEach es X.env)).any (·.1) = false := by rfl) :
    PE X (.Call (.Name x p) (e :: es) [] pos) (tE (eCall g fa)) := by
  obtain ⟨f, fd, ps, hm, hk, hb, F⟩ := h
  exact qe_call F hr hg hm hk hb pass0 ha hdb he hpl
end
end Fw
namespace Fw
open PySem PySem.Spec PyProof.Rows L2 Evl

def gLt := gCmp fun i j => decide (i < j)
def gLe := gCmp fun i j => decide (i ≤ j)
def gGt := gCmp fun i j => decide (j < i)
def gGe := gCmp fun i j => decide (j ≤ i)
theorem gLt_ok : OpD (rI0 fun i j => .bl (decide (i < j))) gLt := gCmp_ok fun i j => decide (i < j)
theorem gLe_ok : OpD (rI0 fun i j => .bl (decide (i ≤ j))) gLe := gCmp_ok fun i j => decide (i ≤ j)
theorem gGt_ok : OpD (rI0 fun i j => .bl (decide (j < i))) gGt := gCmp_ok fun i j => decide (j < i)
theorem gGe_ok : OpD (rI0 fun i j => .bl (decide (j ≤ i))) gGe := gCmp_ok fun i j => decide (j ≤ i)

section
variable {X : Cx} {e a b : Expr} {pos : Pos} {fe : EF} {fw fa fb : WF} {ft : TF}
/-! type(x) is T -/
theorem tyB_of {K : PySem.W.Frag} {H : Hp} {v : V} {d : PyData} {n : String} (h : Dq H v d) (e : tyN d = some n) : TyB K H v n := by
  cases h with
  | non => cases e; exact .non
  | bl b => cases e; exact .bl b
  | int i => cases e; exact .int i
  | str x => cases e; exact .str x
  | lst a b => cases e; exact .lst (.inl (.inl a))
  | tup a b => cases e; exact .tup (.inl (.inl a))
  | op a => cases e
  | fz ns a => cases e
  | d0 a => cases e; exact .dK a
def eTy (neg : Bool) (T : String) (f : WF) : EF := fun env => match f env with
  | none => none
  | some (d, e1) => match tyN d with
    | none => none
    | some n => some (.bool (if neg then !decide (n = T) else decide (n = T)), false, e1)
theorem ty_ok {r : R2} {neg : Bool} {T : String} (hr : ∀ (m : String) (H : Hp) (Q : VK), Q (.bl (if neg then !decide (m = T) else decide (m = T))) H → r (.ty m) (.ty T) H Q) {K : PySem.W.Frag} {σ : L2.St} {H : Hp} {Q : VK} (q : tE (eTy neg T fw) σ H Q) :
    tOp r (tCB (rTyp K) (tCons (tW fw) tNil)) (tC (.ty T)) σ H Q := by
  obtain ⟨B, H0, R0, R, env, d, fr, env', S, hf, k⟩ := q
  unfold eTy at hf
  split at hf
  · cases hf
  · rename_i d' e1 g1
    split at hf
    · cases hf
    · rename_i n hn1
      cases hf
      refine ⟨B, H0, R0, R, env, d', _, S, g1, fun v R1 H1 S1 i1 j1 t1 => ?_⟩
      exact ⟨v, n, rfl, tyB_of (top_dp S1.rh t1) hn1, hr n H1 Q (k _ R1 H1 S1 i1 j1 (.bl _))⟩
section
variable {T : String} {x : Str} {p p2 pos2 : Pos} (hgl : Gl X "type") (hm : X.mg "type" = none) (he : PE X e (tW fw)) (hg2 : Gl X x) (hm2 : X.mg x = none) (hv2 : bootBuiltins x = some (.type T)) (hn : x ≠ "__name__" := by decide) (hdb : (x == ("__debug__" : Str)) = false := by decide)
    (h1 : starEach [e] X.env = (false, eval e X.env) :: starEach [] X.env := by rfl)
include hgl hm he hg2 hm2 hv2
theorem qe_tyIs (hn : x ≠ "__name__" := by decide) (hdb : (x == ("__debug__" : Str)) = false := by decide) (h1 : starEach [e] X.env = (false, eval e X.env) :: starEach [] X.env := by rfl) :
    PE X (.Compare (.Call (.Name "type" p) [e] [] pos2) [.Is] [.Name x p2] pos) (tE (eTy false T fw)) :=
  PE.imp (pe_cmpR op_isTyB (pe_callTy call_type1 hgl hm (by decide +kernel) (pa_cons he pa_nil h1) (he := h1)) (pe_bltn (v := .ty T) hg2 hm2 hv2 rfl hn hdb) (nomark _)) fun σ H Q q => ty_ok (fun m H Q q => ⟨m, T, rfl, rfl, q⟩) q
theorem qe_tyIsNot (hn : x ≠ "__name__" := by decide) (hdb : (x == ("__debug__" : Str)) = false := by decide) (h1 : starEach [e] X.env = (false, eval e X.env) :: starEach [] X.env := by rfl) :
    PE X (.Compare (.Call (.Name "type" p) [e] [] pos2) [.IsNot] [.Name x p2] pos) (tE (eTy true T fw)) :=
  PE.imp (pe_cmpR op_notTyB (pe_callTy call_type1 hgl hm (by decide +kernel) (pa_cons he pa_nil h1) (he := h1)) (pe_bltn (v := .ty T) hg2 hm2 hv2 rfl hn hdb) (nomark _)) fun σ H Q q => ty_ok (fun m H Q q => ⟨m, T, rfl, rfl, q⟩) q
theorem qt_tyIs (hn : x ≠ "__name__" := by decide) (hdb : (x == ("__debug__" : Str)) = false := by decide) (h1 : starEach [e] X.env = (false, eval e X.env) :: starEach [] X.env := by rfl) :
    PT X (.Compare (.Call (.Name "type" p) [e] [] pos2) [.Is] [.Name x p2] pos) (tT (tstE (eTy false T fw))) :=
  PT.imp (pt_cmpR op_isTyB (pe_callTy call_type1 hgl hm (by decide +kernel) (pa_cons he pa_nil h1) (he := h1)) (pe_bltn (v := .ty T) hg2 hm2 hv2 rfl hn hdb) (nomark _)) fun σ H Q q => ty_ok (fun m H Q q => ⟨m, T, rfl, rfl, q⟩) (tst_ok q)
theorem qt_tyIsNot (hn : x ≠ "__name__" := by decide) (hdb : (x == ("__debug__" : Str)) = false := by decide) (h1 : starEach [e] X.env = (false, eval e X.env) :: starEach [] X.env := by rfl) :
    PT X (.Compare (.Call (.Name "type" p) [e] [] pos2) [.IsNot] [.Name x p2] pos) (tT (tstE (eTy true T fw))) :=
  PT.imp (pt_cmpR op_notTyB (pe_callTy call_type1 hgl hm (by decide +kernel) (pa_cons he pa_nil h1) (he := h1)) (pe_bltn (v := .ty T) hg2 hm2 hv2 rfl hn hdb) (nomark _)) fun σ H Q q => ty_ok (fun m H Q q => ⟨m, T, rfl, rfl, q⟩) (tst_ok q)
end
/-! list(range(n)), tuple(range(n)) -/
def eListRg (f : WF) : EF := fun env => match f env with
  | some (.int n, e1) => if 0 ≤ n ∧ n ≤ 1000 then some (.list (intsD 0 n.toNat), true, e1) else none
  | _ => none
def eTupleRg (f : WF) : EF := fun env => match f env with
  | some (.int n, e1) => if 0 ≤ n ∧ n ≤ 1000 then some (.tuple (intsD 0 n.toNat), false, e1) else none
  | _ => none
theorem rgV_dq {R : Hp} (n : Int) : DqAll R (rgV 0 n) (intsD 0 n.toNat) := by
  unfold rgV intsD
  rw [Int.sub_zero]
  generalize List.range n.toNat = l
  induction l with
  | nil => exact .nil
  | cons x r ih => exact .cons (.int _) ih
theorem qe_listRg {p p2 pos2 : Pos} (hc : X.calm = true) (hg : Gl X "list") (hm : X.mg "list" = none) (hg2 : Gl X "range") (hm2 : X.mg "range" = none) (ha : PE X a (tW fa)) (na : starEach [a] X.env = (false, eval a X.env) :: starEach [] X.env := by rfl)
    (nb : starEach [.Call (.Name "range" p2) [a] [] pos2] X.env = (false, eval (.Call (.Name "range" p2) [a] [] pos2) X.env) :: starEach [] X.env := by rfl) : PE X (.Call (.Name "list" p) [.Call (.Name "range" p2) [a] [] pos2] [] pos) (tE (eListRg fa)) :=
  PE.imp (pe_listRg hc hg hm (prg_1 hg2 hm2 ha na) nb) fun σ H Q q => by
    obtain ⟨B, H0, R0, R, env, d, fr, env', S, hf, k⟩ := q
    unfold eListRg at hf
    split at hf
    · rename_i n e1 g1
      split at hf
      · rename_i hz
        cases hf
        refine ⟨B, H0, R0, R, env, .int n, _, S, g1, fun v R1 H1 S1 i1 j1 t1 => ?_⟩
        have ev := top_int t1
        subst ev
        refine ⟨n, rfl, .of_le (by omega) (by omega) (by omega) (by omega), fun q hq => ?_⟩
        exact Cont.nowL S1.rh (S1.cont fun v R' H' S' e1 e2 r => k v R' H' S' (i1.trans e1) (j1.trans e2) r) hq (rgV_dq n)
      · cases hf
    · cases hf
theorem qe_tupleRg {p p2 pos2 : Pos} (hc : X.calm = true) (hg : Gl X "tuple") (hm : X.mg "tuple" = none) (hg2 : Gl X "range") (hm2 : X.mg "range" = none) (ha : PE X a (tW fa)) (na : starEach [a] X.env = (false, eval a X.env) :: starEach [] X.env := by rfl)
    (nb : starEach [.Call (.Name "range" p2) [a] [] pos2] X.env = (false, eval (.Call (.Name "range" p2) [a] [] pos2) X.env) :: starEach [] X.env := by rfl) : PE X (.Call (.Name "tuple" p) [.Call (.Name "range" p2) [a] [] pos2] [] pos) (tE (eTupleRg fa)) :=
  PE.imp (pe_tupRg hc hg hm (prg_1 hg2 hm2 ha na) nb) fun σ H Q q => by
    obtain ⟨B, H0, R0, R, env, d, fr, env', S, hf, k⟩ := q
    unfold eTupleRg at hf
    split at hf
    · rename_i n e1 g1
      split at hf
      · rename_i hz
        cases hf
        refine ⟨B, H0, R0, R, env, .int n, _, S, g1, fun v R1 H1 S1 i1 j1 t1 => ?_⟩
        have ev := top_int t1
        subst ev
        refine ⟨n, rfl, .of_le (by omega) (by omega) (by omega) (by omega), fun q hq => ?_⟩
        exact Cont.nowT S1.rh (S1.cont fun v R' H' S' e1 e2 r => k v R' H' S' (i1.trans e1) (j1.trans e2) r) hq (rgV_dq n)
      · cases hf
    · cases hf
/-! sorted(list of ints), sum, all -/
def intsOf : List PyData → Option (List Int)
  | [] => some []
  | .int i :: r => (intsOf r).map (i :: ·)
  | _ :: _ => none
theorem intsOf_map (ns : List Int) : intsOf (ns.map PyData.int) = some ns := by
  induction ns with
  | nil => rfl
  | cons x r ih => simp only [List.map_cons, intsOf, ih, Option.map_some]
theorem intsOf_eq : ∀ {ds : List PyData} {ns : List Int}, intsOf ds = some ns → ds = ns.map PyData.int
  | [], ns, h => by cases h; rfl
  | .int i :: r, ns, h => by
    simp only [intsOf] at h
    cases hr : intsOf r with
    | none => rw [hr] at h; cases h
    | some ms =>
      rw [hr] at h
      cases h
      rw [intsOf_eq hr]
      rfl
  | .none :: _, _, h => by cases h
  | .bool _ :: _, _, h => by cases h
  | .str _ :: _, _, h => by cases h
  | .list _ :: _, _, h => by cases h
  | .tuple _ :: _, _, h => by cases h
  | .dict _ :: _, _, h => by cases h
def boolsOf : List PyData → Option (List Bool)
  | [] => some []
  | .bool i :: r => (boolsOf r).map (i :: ·)
  | _ :: _ => none
theorem boolsOf_map (ns : List Bool) : boolsOf (ns.map PyData.bool) = some ns := by
  induction ns with
  | nil => rfl
  | cons x r ih => simp only [List.map_cons, boolsOf, ih, Option.map_some]
theorem boolsOf_eq : ∀ {ds : List PyData} {ns : List Bool}, boolsOf ds = some ns → ds = ns.map PyData.bool
  | [], ns, h => by cases h; rfl
  | .bool i :: r, ns, h => by
    simp only [boolsOf] at h
    cases hr : boolsOf r with
    | none => rw [hr] at h; cases h
    | some ms =>
      rw [hr] at h
      cases h
      rw [boolsOf_eq hr]
      rfl
  | .none :: _, _, h => by cases h
  | .int _ :: _, _, h => by cases h
  | .str _ :: _, _, h => by cases h
  | .list _ :: _, _, h => by cases h
  | .tuple _ :: _, _, h => by cases h
  | .dict _ :: _, _, h => by cases h
def insI (x : Int) : List Int → List Int
  | [] => [x]
  | y :: r => if x ≤ y then x :: y :: r else y :: insI x r
def sortI : List Int → List Int
  | [] => []
  | x :: r => insI x (sortI r)
theorem insI_perm (x : Int) : ∀ r : List Int, (insI x r).Perm (x :: r)
  | [] => .refl _
  | y :: r => by
    unfold insI
    split
    · exact .refl _
    · exact ((insI_perm x r).cons y).trans (.swap x y r)
theorem sortI_perm : ∀ r : List Int, (sortI r).Perm r
  | [] => .refl _
  | x :: r => (insI_perm x (sortI r)).trans ((sortI_perm r).cons x)
theorem insI_sorted (x : Int) : ∀ {r : List Int}, r.Pairwise (· ≤ ·) → (insI x r).Pairwise (· ≤ ·)
  | [], _ => by simp [insI]
  | y :: r, h => by
    unfold insI
    have h' := List.pairwise_cons.mp h
    split
    · rename_i hxy
      refine List.pairwise_cons.mpr ⟨fun z hz => ?_, h⟩
      rcases List.mem_cons.mp hz with e | hz
      · subst e; exact hxy
      · exact Int.le_trans hxy (h'.1 z hz)
    · rename_i hxy
      refine List.pairwise_cons.mpr ⟨fun z hz => ?_, insI_sorted x h'.2⟩
      rcases List.mem_cons.mp ((insI_perm x r).mem_iff.mp hz) with e | hz
      · subst e; omega
      · exact h'.1 z hz
theorem sortI_sorted : ∀ r : List Int, (sortI r).Pairwise (· ≤ ·)
  | [] => .nil
  | x :: r => insI_sorted x (sortI_sorted r)
theorem sorted_one : ∀ {a b : List Int}, a.Perm b → a.Pairwise (· ≤ ·) → b.Pairwise (· ≤ ·) → a = b
  | [], b, h, _, _ => by rw [List.nil_perm.mp h]
  | x :: r, [], h, _, _ => by simp at h
  | x :: r, y :: t, h, ha, hb => by
    have ha' := List.pairwise_cons.mp ha
    have hb' := List.pairwise_cons.mp hb
    have e : x = y := by
      have h1 : x ∈ y :: t := h.mem_iff.mp List.mem_cons_self
      have h2 : y ∈ x :: r := h.mem_iff.mpr List.mem_cons_self
      have l1 : y ≤ x := by
        rcases List.mem_cons.mp h1 with e | m
        · omega
        · exact hb'.1 x m
      have l2 : x ≤ y := by
        rcases List.mem_cons.mp h2 with e | m
        · omega
        · exact ha'.1 y m
      omega
    subst e
    rw [sorted_one (List.Perm.cons_inv h) ha'.2 hb'.2]
def gSorted : List PyData → Option (PyData × Bool)
  | [.list ds] => (intsOf ds).bind fun ns => if ns.length < 64 then some (.list ((sortI ns).map .int), true) else none
  | _ => none
theorem gSorted_ok {K : PySem.W.Frag} : CallD (rSorted K) gSorted := by
  intro R H vs ds d fr Q e t hg k
  unfold gSorted at hg
  split at hg
  · rename_i es
    cases hn : intsOf es with
    | none => rw [hn] at hg; cases hg
    | some ns =>
      rw [hn] at hg
      simp only [Option.bind_some] at hg
      split at hg
      · rename_i hl
        cases hg
        obtain ⟨v, rfl, t1⟩ := tops1 t
        obtain ⟨a, vs, rfl, h1, h2⟩ := top_list t1
        rw [intsOf_eq hn] at h2
        have ev := dpa_ints h2
        subst ev
        refine ⟨a, ns, rfl, .inl (.inl h1), hl, fun ns' p hp hs hq => ?_⟩
        have en : ns' = sortI ns := sorted_one (hp.trans (sortI_perm ns).symm) hs (sortI_sorted ns)
        subst en
        exact k.nowL e hq (dpa_of_ints _)
      · cases hg
  · cases hg
def gSum : List PyData → Option (PyData × Bool)
  | [.list ds] => (intsOf ds).map fun ns => (.int ns.sum, false)
  | _ => none
theorem gSum_ok {K : PySem.W.Frag} : CallD (rSum K) gSum := by
  intro R H vs ds d fr Q e t hg k
  unfold gSum at hg
  split at hg
  · rename_i es
    cases hn : intsOf es with
    | none => rw [hn] at hg; cases hg
    | some ns =>
      rw [hn] at hg
      cases hg
      obtain ⟨v, rfl, t1⟩ := tops1 t
      obtain ⟨a, vs, rfl, h1, h2⟩ := top_list t1
      rw [intsOf_eq hn] at h2
      have ev := dpa_ints h2
      subst ev
      exact ⟨a, ns, rfl, .inl (.inl h1), k.now e (.int _)⟩
  · cases hg
def gAll : List PyData → Option (PyData × Bool)
  | [.list ds] => (boolsOf ds).map fun ns => (.bool (ns.all id), false)
  | _ => none
theorem gAll_ok {K : PySem.W.Frag} : CallD (rAll K) gAll := by
  intro R H vs ds d fr Q e t hg k
  unfold gAll at hg
  split at hg
  · rename_i es
    cases hn : boolsOf es with
    | none => rw [hn] at hg; cases hg
    | some ns =>
      rw [hn] at hg
      cases hg
      obtain ⟨v, rfl, t1⟩ := tops1 t
      obtain ⟨a, vs, rfl, h1, h2⟩ := top_list t1
      rw [boolsOf_eq hn] at h2
      have ev := dpa_bls h2
      subst ev
      exact ⟨a, ns, rfl, .inl (.inl h1), k.now e (.bl _)⟩
  · cases hg
/-! statements on owned lists -/
theorem qs_app {i : Nat} {e0 : Expr} (h : PS X (.Expr e0 pos) (tDrop (tBM X.K "list" rAppend (tVar i) (tCons (tE fe) tNil)))) : PS X (.Expr e0 pos) (tS (sApp i fe)) := PS.imp h fun D σ H q => app_ok q
theorem qs_setIx {tg : Expr} {i : Nat} (h : PS X (.Assign [tg] e pos) (tAsg (tE fe) (L2.gSub (tVar i) (tW fw) rSetL))) (hk : ∀ env r, fw env = some r → r.2 = env) : PS X (.Assign [tg] e pos) (tS (sSetIx i fe fw)) := PS.imp h fun D σ H q => setIx_ok hk q
theorem wVar_same {i : Nat} {env : En} {r : PyData × En} (h : wVar i env = some r) : r.2 = env := by
  unfold wVar at h
  split at h
  · split at h
    · cases h; rfl
    · cases h; rfl
  · cases h
end
end Fw
namespace Fw
open PySem PySem.Spec PyProof.Rows L2 Evl

abbrev GFn := List PyData → Option (PyData × Bool)
/-- what a script's cell is, for the datum that stands for the script -/
def gcL : GFn
  | [.dict [(.list l, .none)], .int k] => (intsOf l).bind fun ns => if 0 ≤ k then some (.int (ns.getD k.toNat 0), false) else none
  | _ => none
def gcK (a0 : Addr) (ns : List Int) : GFn
  | [.dict [(.int z, .none)], .int k] => if z = Int.ofNat a0 ∧ 0 ≤ k then some (.int (ns.getD k.toNat 0), false) else none
  | _ => none
def CellOk (ns : List Int) (sd : PyData) (gc : GFn) : Prop := tokOf sd = none ∧ ∀ k : Int, 0 ≤ k → gc [sd, .int k] = some (.int (ns.getD k.toNat 0), false)
theorem cell_L (ns : List Int) : CellOk ns (.dict [(.list (ns.map .int), .none)]) gcL := ⟨rfl, fun k hk => by
  unfold gcL
  simp only [intsOf_map, Option.bind_some]
  rw [if_pos hk]⟩
theorem cell_K (a0 : Addr) (ns : List Int) : CellOk ns (.dict [(.int (Int.ofNat a0), .none)]) (gcK a0 ns) := ⟨rfl, fun k hk => by
  show (if Int.ofNat a0 = Int.ofNat a0 ∧ 0 ≤ k then some (PyData.int (ns.getD k.toNat 0), false) else none) = _
  rw [if_pos ⟨rfl, hk⟩]⟩
def CellG (K : PySem.W.Frag) (gc : GFn) : Prop := ∀ (R H : Hp) (vs : List V) (ds : List PyData) (d : PyData) (fr : Bool), Ex R H → ArgAll R H [false, true] vs ds → gc ds = some (d, fr) →
  ∃ (a : Addr) (ns : List Int) (k : Int), vs = [.ref a, .int k] ∧ SqL K H a (ns.map V.int) ∧ 0 ≤ k ∧ d = .int (ns.getD k.toNat 0) ∧ fr = false
theorem args_cell {R H : Hp} {vs : List V} {x : PyData} {k : Int} (e : Ex R H) (h : ArgAll R H [false, true] vs [x, .int k]) : ∃ v, vs = [v, .int k] ∧ Dq R v x := by
  cases h with
  | sh h1 h2 =>
    cases h2 with
    | sh h3 h4 =>
      cases h4
      cases h3
      exact ⟨_, rfl, h1⟩
    | rd h3 h4 =>
      cases h4
      have e1 := top_int h3
      subst e1
      exact ⟨_, rfl, h1⟩
theorem cellG_L {K : PySem.W.Frag} : CellG K gcL := fun R H vs ds d fr e hd hg => by
  unfold gcL at hg
  split at hg
  · rename_i l k
    cases hn : intsOf l with
    | none => rw [hn] at hg; cases hg
    | some ns =>
      rw [hn] at hg
      simp only [Option.bind_some] at hg
      split at hg
      · rename_i hk
        cases hg
        obtain ⟨v, rfl, h1⟩ := args_cell e hd
        cases h1 with
        | fz ms h5 =>
          rw [intsOf_map] at hn
          cases hn
          exact ⟨_, ns, k, rfl, .inl (.inr ⟨_, e _ _ h5⟩), hk, rfl, rfl⟩
      · cases hg
  · cases hg
theorem cellG_K {K : PySem.W.Frag} {a0 : Addr} {ns : List Int} (hs : ∀ H, SqL K H a0 (ns.map V.int)) : CellG K (gcK a0 ns) := fun R H vs ds d fr e hd hg => by
  unfold gcK at hg
  split at hg
  · rename_i z k
    split at hg
    · rename_i hk
      cases hg
      obtain ⟨v, rfl, h1⟩ := args_cell e hd
      cases h1 with
      | op a =>
        have ea : a = a0 := Int.ofNat.inj hk.1
        subst ea
        exact ⟨a, ns, k, rfl, hs H, hk.2, rfl, rfl⟩
    · cases hg
  · cases hg
section
variable {P : Program} {w : World} {K : PySem.W.Frag} {mg : Str → Option Value} {base : Heap}
theorem cell_at_ok {ns : List Int} {k : Int} (hk : 0 ≤ k) (hlt : k < ((ns.map V.int).length : Nat)) : atI (ns.map V.int) k = some (.int (ns.getD k.toNat 0)) := by
  have hl : k.toNat < ns.length := by
    rw [List.length_map] at hlt
    omega
  refine at_of (j := k.toNat) (by omega) ?_
  rw [List.getElem?_map, List.getElem?_eq_getElem hl, List.getD_eq_getElem?_getD, List.getElem?_eq_getElem hl]
  rfl
theorem cell_out {ns : List Int} {k : Int} (hk : 0 ≤ k) (hlt : ¬ k < ((ns.map V.int).length : Nat)) : ns.getD k.toNat 0 = 0 := by
  rw [List.length_map] at hlt
  rw [List.getD_eq_getElem?_getD, List.getElem?_eq_none (by omega)]
  rfl
/-- the law's promise from a promise for each script's datum -/
def spScr (a0 : Addr) (sd : PyData) : Sp := fun vs H Q _ => vs = [.ref a0] ∧ Dq H (.ref a0) sd ∧ ∀ H', Q (.bl true) H'
def Scr (K : PySem.W.Frag) (H : Hp) (a : Addr) (ns : List Int) : Prop := (∃ o, H a = some (.frz o (.lst (ns.map V.int)))) ∨ ∀ H', SqL K H' a (ns.map V.int)
theorem scr_of {K : PySem.W.Frag} {H : Hp} {a : Addr} {ns : List Int} (hO : Only H) (hS : SqL K H a (ns.map V.int)) : Scr K H a ns := by
  rcases hS with (hS | ⟨o, hS⟩) | hS
  · rcases hO a with z | ⟨o, xs, z⟩
    · rw [hS] at z
      cases z
    · rw [hS] at z
      cases z
  · exact .inl ⟨o, hS⟩
  · exact .inr fun H' => .inr hS
def spLaw (K : PySem.W.Frag) : Sp := fun vs H Q _ => ∃ (a : Addr) (ns : List Int), vs = [.ref a] ∧ Scr K H a ns ∧ ns.length ≤ 63 ∧ ∀ H', Q (.bl true) H'
theorem fn_law {k : Nat} {f : Addr} {fd : FuncData} {x : Str}
    (h : ∀ (a0 : Addr) (ns : List Int) (sd : PyData) (gc : GFn), CellOk ns sd gc → CellG K gc → ns.length ≤ 63 → FnOk P w K mg base CX0 k f fd [x] (spScr a0 sd)) : FnOk P w K mg base CX0 k f fd [x] (spLaw K) := by
  refine ⟨fun vs H Q E hs => ?_, fun A outer s H args us vs Q E hr he hb hv hs => ?_⟩
  · obtain ⟨a, ns, rfl, _⟩ := hs
    rfl
  · obtain ⟨a, ns, rfl, hS, hl, q⟩ := hs
    rcases hS with ⟨o, hS⟩ | hS
    · exact (h a ns _ _ (cell_L ns) cellG_L hl).run A outer s H args us [.ref a] Q E hr he hb hv ⟨rfl, .fz ns hS, q⟩
    · exact (h a ns _ _ (cell_K a ns) (cellG_K hS) hl).run A outer s H args us [.ref a] Q E hr he hb hv ⟨rfl, .op a, q⟩
theorem fn_scr {k : Nat} {f : Addr} {fd : FuncData} {x : Str} {a0 : Addr} {sd : PyData} {g : GFn} {fr : Bool} (F : FnOk P w K mg base CX0 k f fd [x] (spD g [false])) (hg : g [sd] = some (.bool true, fr)) : FnOk P w K mg base CX0 k f fd [x] (spScr a0 sd) := by
  refine F.imp fun vs H Q E hs => ?_
  obtain ⟨rfl, hd, q⟩ := hs
  refine ⟨H, [sd], .bool true, fr, Ex.refl H, .sh hd .nil, hg, fun v R' H' _ _ _ _ r => ?_⟩
  cases fr with
  | false =>
    cases r
    exact q H'
  | true =>
    obtain ⟨_, _, _, _, h, _⟩ := r
    cases h
end
end Fw
namespace Fw
open PySem PySem.Spec PyProof.Rows L2 Evl
section
variable {env e1 e2 e3 : En} {d x y z : PyData} {o fr fr1 fr2 b b1 b2 : Bool} {i n : Nat} {f g : EF} {fa fb fc : WF} {c c1 c2 : TF} {as bs : AF} {ds : List PyData}
theorem v_wt (h : env[i]? = some (some (tokD ds, o))) : wVar i env = some (.list ds, env) := by
  unfold wVar
  rw [h]
  rfl
theorem v_w (h : env[i]? = some (some (d, o))) (ht : tokOf d = none) : wVar i env = some (d, env) := by
  unfold wVar
  rw [h]
  simp only
  rw [ht]
theorem v_s (h : env[i]? = some (some (d, false))) (ht : tokOf d = none) : eVar i env = some (d, false, env) := by
  unfold eVar
  rw [h]
  simp only
  rw [ht]
theorem v_o (h : env[i]? = some (some (d, true))) (ht : tokOf d = none) : eVar i env = some (d, false, env.set i (some (d, false))) := by
  unfold eVar
  rw [h]
  simp only
  rw [ht]
theorem v_m (h : env[i]? = some (some (d, o))) (ht : tokOf d = none) : eMv i env = some (d, o, env.set i none) := by
  unfold eMv
  rw [h]
  simp only
  rw [ht]
theorem v_int (h : env[i]? = some (some (tokD ds, o))) : iNm i env = some (ds, env) := by
  unfold iNm
  rw [h]
  rfl
theorem v_ins (h : env[i]? = some (some (.list ds, false))) : iNm i env = some (ds, env) := by
  unfold iNm
  rw [h]
  rfl
theorem v_ino (h : env[i]? = some (some (.list ds, true))) : iNm i env = some (ds, env.set i (some (.list ds, false))) := by
  unfold iNm
  rw [h]
  rfl
theorem v_c : eC d env = some (d, false, env) := rfl
theorem v_wc : wOf (eC d) env = some (d, env) := rfl
theorem v_of (h : f env = some (d, fr, e1)) : wOf f env = some (d, e1) := by
  unfold wOf
  rw [h]
  rfl
theorem v_bin {g : PyData → PyData → Option (PyData × Bool)} (h1 : fa env = some (x, e1)) (h2 : fb e1 = some (y, e2)) (h3 : g x y = some (d, fr)) : eBin g fa fb env = some (d, fr, e2) := by
  unfold eBin
  rw [h1]
  simp only
  rw [h2]
  simp only
  rw [h3]
theorem v_an : aNil env = some ([], env) := rfl
theorem v_ac (h1 : f env = some (d, fr, e1)) (h2 : as e1 = some (ds, e2)) : aCons f as env = some (d :: ds, e2) := by
  unfold aCons
  rw [h1]
  simp only
  rw [h2]
theorem v_bc (h1 : fa env = some (d, e1)) (h2 : as e1 = some (ds, e2)) : bCons fa as env = some (d :: ds, e2) := by
  unfold bCons
  rw [h1]
  simp only
  rw [h2]
theorem v_call {g : GFn} (h1 : as env = some (ds, e1)) (h2 : g ds = some (d, fr)) : eCall g as env = some (d, fr, e1) := by
  unfold eCall
  rw [h1]
  simp only
  rw [h2]
theorem v_callB {g : GFn} (h1 : as env = some (ds, e1)) (h2 : g ds = some (d, fr)) : eCallB g as env = some (d, fr, e1) := by
  unfold eCallB
  rw [h1]
  simp only
  rw [h2]
theorem v_lst (h1 : as env = some (ds, e1)) (hl : ds.length ≤ 1000) : eLst as env = some (.list ds, true, e1) := by
  unfold eLst
  rw [h1]
  simp only
  rw [if_pos hl]
theorem v_tup (h1 : as env = some (ds, e1)) (hl : ds.length ≤ 1000) : eTup as env = some (.tuple ds, false, e1) := by
  unfold eTup
  rw [h1]
  simp only
  rw [if_pos hl]
theorem v_neg {i : Int} (h : f env = some (.int i, fr, e1)) : eNeg f env = some (.int (-i), false, e1) := by
  unfold eNeg
  rw [h]
theorem v_not (h : f env = some (.bool b, fr, e1)) : eNot f env = some (.bool (!b), false, e1) := by
  unfold eNot
  rw [h]
theorem v_and (h : f env = some (.bool b, fr, e1)) (h2 : b = true → g e1 = some (.bool b2, false, e1)) : eAnd f g env = some (.bool (b && b2), false, e1) := by
  unfold eAnd
  rw [h]
  cases b with
  | true => exact h2 rfl
  | false => rfl
theorem v_or (h : f env = some (.bool b, fr, e1)) (h2 : b = false → g e1 = some (.bool b2, false, e1)) : eOr f g env = some (.bool (b || b2), false, e1) := by
  unfold eOr
  rw [h]
  cases b with
  | false => exact h2 rfl
  | true => rfl
theorem v_if (h : c env = some (b, e1)) (h1 : b = true → f e1 = some (x, false, e2)) (h2 : b = false → g e1 = some (y, false, e2)) : eIf c f g env = some (if b = true then x else y, false, e2) := by
  unfold eIf
  rw [h]
  cases b with
  | true => exact h1 rfl
  | false => exact h2 rfl
theorem v_isi {T n : String} (h : fa env = some (d, e1)) (h1 : tyN d = some n) (h2 : kitB n T = some b) : eIsi T fa env = some (.bool b, false, e1) := by
  unfold eIsi
  rw [h]
  simp only
  rw [h1]
  simp only
  rw [h2]
theorem v_ty {T n : String} {neg : Bool} (h : fa env = some (d, e1)) (h1 : tyN d = some n) : eTy neg T fa env = some (.bool (if neg then !decide (n = T) else decide (n = T)), false, e1) := by
  unfold eTy
  rw [h]
  simp only
  rw [h1]
theorem v_chain {g1 g2 : PyData → PyData → Option (PyData × Bool)} (h1 : fa env = some (x, e1)) (h2 : fb e1 = some (y, e2)) (h3 : g1 x y = some (.bool b1, false)) (h4 : b1 = true → fc e2 = some (z, e2)) (h5 : b1 = true → g2 y z = some (.bool b2, false)) :
    eChain g1 g2 fa fb fc env = some (.bool (b1 && b2), false, e2) := by
  unfold eChain
  rw [h1]
  simp only
  rw [h2]
  simp only
  rw [h3]
  cases b1 with
  | false => rfl
  | true =>
    simp only
    rw [h4 rfl]
    simp only
    rw [h5 rfl]
    rfl
theorem v_tst (h : f env = some (.bool b, fr, e1)) : tstE f env = some (b, e1) := by
  unfold tstE
  rw [h]
theorem v_cn (h : c env = some (b, e1)) : cNot c env = some (!b, e1) := by
  unfold cNot
  rw [h]
theorem v_ca (h : c1 env = some (b1, e1)) (h2 : b1 = true → c2 e1 = some (b2, e1)) : cAnd c1 c2 env = some (b1 && b2, e1) := by
  unfold cAnd
  rw [h]
  cases b1 with
  | true => exact h2 rfl
  | false => rfl
theorem v_co (h : c1 env = some (b1, e1)) (h2 : b1 = false → c2 e1 = some (b2, e1)) : cOr c1 c2 env = some (b1 || b2, e1) := by
  unfold cOr
  rw [h]
  cases b1 with
  | false => exact h2 rfl
  | true => rfl
theorem v_on : oNo env = some (none, env) := rfl
theorem v_oy {i : Int} (h : fa env = some (.int i, e1)) : oYes fa env = some (some i, e1) := by
  unfold oYes
  rw [h]
theorem v_slL {l h : OF} {lo hi : Option Int} (h1 : fa env = some (.list ds, e1)) (h2 : l e1 = some (lo, e2)) (h3 : h e2 = some (hi, e3)) : eSl fa l h env = some (.list (cutA ds lo hi), true, e3) := by
  unfold eSl
  rw [h1]
  simp only
  rw [h2]
  simp only
  rw [h3]
theorem v_slT {l h : OF} {lo hi : Option Int} (h1 : fa env = some (.tuple ds, e1)) (h2 : l e1 = some (lo, e2)) (h3 : h e2 = some (hi, e3)) : eSl fa l h env = some (.tuple (cutA ds lo hi), false, e3) := by
  unfold eSl
  rw [h1]
  simp only
  rw [h2]
  simp only
  rw [h3]
theorem v_lrg {n : Int} (h : fa env = some (.int n, e1)) (h0 : 0 ≤ n) (h1 : n ≤ 1000) : eListRg fa env = some (.list (intsD 0 n.toNat), true, e1) := by
  unfold eListRg
  rw [h]
  simp only
  rw [if_pos ⟨h0, h1⟩]
theorem v_trg {n : Int} (h : fa env = some (.int n, e1)) (h0 : 0 ≤ n) (h1 : n ≤ 1000) : eTupleRg fa env = some (.tuple (intsD 0 n.toNat), false, e1) := by
  unfold eTupleRg
  rw [h]
  simp only
  rw [if_pos ⟨h0, h1⟩]
/-! values of the operators -/
theorem g_add {i j : Int} : gAdd (.int i) (.int j) = some (.int (i + j), false) := rfl
theorem g_addL {a b : List PyData} (h : a.length + b.length ≤ 1000) : gAdd (.list a) (.list b) = some (.list (a ++ b), true) := by
  show (if _ then _ else _) = _
  rw [if_pos h]
theorem g_addT {a b : List PyData} (h : a.length + b.length ≤ 1000) : gAdd (.tuple a) (.tuple b) = some (.tuple (a ++ b), false) := by
  show (if _ then _ else _) = _
  rw [if_pos h]
theorem g_sub {i j : Int} : Fw.gSub (.int i) (.int j) = some (.int (i - j), false) := rfl
theorem g_mulr {i j : Int} (h : -(2 ^ 64) < j ∧ j < 2 ^ 64) : gMul (.int i) (.int j) = some (.int (i * j), false) := by
  show (if _ then _ else _) = _
  rw [if_pos (Or.inr h)]
theorem g_mull {i j : Int} (h : -(2 ^ 64) < i ∧ i < 2 ^ 64) : gMul (.int i) (.int j) = some (.int (i * j), false) := by
  show (if _ then _ else _) = _
  rw [if_pos (Or.inl h)]
theorem g_rep {a : List PyData} {k : Int} (h : -(2 ^ 63) ≤ k ∧ k < 2 ^ 63 ∧ a.length * k.toNat ≤ 1000) : gMul (.list a) (.int k) = some (.list (List.replicate k.toNat a).flatten, true) := by
  show (if _ then _ else _) = _
  rw [if_pos h]
theorem g_mod {i j : Int} (h : 0 < j) : gMod (.int i) (.int j) = some (.int (i % j), false) := by
  show (if _ then _ else _) = _
  rw [if_pos h]
theorem g_div {i j : Int} (h : 0 < j ∧ j < 1073741824) : gDiv (.int i) (.int j) = some (.int (i / j), false) := by
  show (if _ then _ else _) = _
  rw [if_pos h]
theorem g_pow {i j : Int} (h : 0 ≤ j ∧ j ≤ 1000 ∧ i.natAbs < 2 ^ 64) : gPow (.int i) (.int j) = some (.int (i ^ j.toNat), false) := by
  show (if _ then _ else _) = _
  rw [if_pos h]
theorem g_lt {i j : Int} : gLt (.int i) (.int j) = some (.bool (decide (i < j)), false) := rfl
theorem g_le {i j : Int} : gLe (.int i) (.int j) = some (.bool (decide (i ≤ j)), false) := rfl
theorem g_gt {i j : Int} : gGt (.int i) (.int j) = some (.bool (decide (j < i)), false) := rfl
theorem g_ge {i j : Int} : gGe (.int i) (.int j) = some (.bool (decide (j ≤ i)), false) := rfl
theorem g_eq {i j : Int} : gEq (.int i) (.int j) = some (.bool (decide (i = j)), false) := rfl
theorem g_ne {i j : Int} : gNe (.int i) (.int j) = some (.bool (!decide (i = j)), false) := rfl
theorem g_ixL {i : Int} (h : atI ds i = some d) : gIx (.list ds) (.int i) = some (d, false) := by
  show (atI ds i).map _ = _
  rw [h]
  rfl
theorem g_ixT {i : Int} (h : atI ds i = some d) : gIx (.tuple ds) (.int i) = some (d, false) := by
  show (atI ds i).map _ = _
  rw [h]
  rfl
/-! the same with the ends told apart, for the tactic -/
theorem x_wt (h : env[i]? = some (some (tokD ds, o))) (hd : PyData.list ds = d) (he : env = e1) : wVar i env = some (d, e1) := by
  rw [v_wt h, hd, he]
theorem x_w (h : env[i]? = some (some (d, o))) (ht : tokOf d = none) (he : env = e1) : wVar i env = some (d, e1) := by
  rw [v_w h ht, he]
theorem x_s (h : env[i]? = some (some (d, false))) (ht : tokOf d = none) (hf : false = fr) (he : env = e1) : eVar i env = some (d, fr, e1) := by
  rw [v_s h ht, hf, he]
theorem x_o (h : env[i]? = some (some (d, true))) (ht : tokOf d = none) (hf : false = fr) (he : env.set i (some (d, false)) = e1) : eVar i env = some (d, fr, e1) := by
  subst hf
  rw [v_o h ht, he]
theorem x_m (h : env[i]? = some (some (d, fr))) (ht : tokOf d = none) (he : env.set i none = e1) : eMv i env = some (d, fr, e1) := by
  rw [v_m h ht, he]
theorem x_c (hd : x = d) (hf : false = fr) (he : env = e1) : eC x env = some (d, fr, e1) := by
  rw [v_c, hd, hf, he]
theorem x_wc (hd : x = d) (he : env = e1) : wOf (eC x) env = some (d, e1) := by
  rw [v_wc, hd, he]
theorem x_an (hd : [] = ds) (he : env = e1) : aNil env = some (ds, e1) := by
  rw [v_an, hd, he]
theorem x_on {oo : Option Int} (hd : none = oo) (he : env = e1) : oNo env = some (oo, e1) := by
  rw [v_on, hd, he]
theorem x_int {es : List PyData} (h : env[i]? = some (some (tokD ds, o))) (hd : ds = es) (he : env = e1) : iNm i env = some (es, e1) := by
  rw [v_int h, hd, he]
theorem x_ins {es : List PyData} (h : env[i]? = some (some (.list ds, false))) (hd : ds = es) (he : env = e1) : iNm i env = some (es, e1) := by
  rw [v_ins h, hd, he]
theorem x_ino {es : List PyData} (h : env[i]? = some (some (.list ds, true))) (hd : ds = es) (he : env.set i (some (.list ds, false)) = e1) : iNm i env = some (es, e1) := by
  subst hd
  rw [v_ino h, he]
theorem x_tup (h1 : as env = some (ds, e1)) (hl : ds.length ≤ 1000) (hd : PyData.tuple ds = d) (hf : false = fr) : eTup as env = some (d, fr, e1) := by
  rw [v_tup h1 hl, hd, hf]
theorem x_lst (h1 : as env = some (ds, e1)) (hl : ds.length ≤ 1000) (hd : PyData.list ds = d) (hf : true = fr) : eLst as env = some (d, fr, e1) := by
  rw [v_lst h1 hl, hd, hf]
theorem y_add {i j : Int} (h : PyData.int (i + j) = d) (hf : false = fr) : gAdd (.int i) (.int j) = some (d, fr) := by rw [g_add, h, hf]
theorem y_sub {i j : Int} (h : PyData.int (i - j) = d) (hf : false = fr) : Fw.gSub (.int i) (.int j) = some (d, fr) := by rw [g_sub, h, hf]
theorem y_mulr {i j : Int} (q : -(2 ^ 64) < j ∧ j < 2 ^ 64) (h : PyData.int (i * j) = d) (hf : false = fr) : gMul (.int i) (.int j) = some (d, fr) := by rw [g_mulr q, h, hf]
theorem y_mull {i j : Int} (q : -(2 ^ 64) < i ∧ i < 2 ^ 64) (h : PyData.int (i * j) = d) (hf : false = fr) : gMul (.int i) (.int j) = some (d, fr) := by rw [g_mull q, h, hf]
theorem y_mod {i j : Int} (q : 0 < j) (h : PyData.int (i % j) = d) (hf : false = fr) : gMod (.int i) (.int j) = some (d, fr) := by rw [g_mod q, h, hf]
theorem y_div {i j : Int} (q : 0 < j ∧ j < 1073741824) (h : PyData.int (i / j) = d) (hf : false = fr) : gDiv (.int i) (.int j) = some (d, fr) := by rw [g_div q, h, hf]
theorem y_lt {i j : Int} (h : PyData.bool (decide (i < j)) = d) (hf : false = fr) : gLt (.int i) (.int j) = some (d, fr) := by rw [g_lt, h, hf]
theorem y_le {i j : Int} (h : PyData.bool (decide (i ≤ j)) = d) (hf : false = fr) : gLe (.int i) (.int j) = some (d, fr) := by rw [g_le, h, hf]
theorem y_gt {i j : Int} (h : PyData.bool (decide (j < i)) = d) (hf : false = fr) : gGt (.int i) (.int j) = some (d, fr) := by rw [g_gt, h, hf]
theorem y_ge {i j : Int} (h : PyData.bool (decide (j ≤ i)) = d) (hf : false = fr) : gGe (.int i) (.int j) = some (d, fr) := by rw [g_ge, h, hf]
theorem y_eq {i j : Int} (h : PyData.bool (decide (i = j)) = d) (hf : false = fr) : gEq (.int i) (.int j) = some (d, fr) := by rw [g_eq, h, hf]
theorem y_ne {i j : Int} (h : PyData.bool (!decide (i = j)) = d) (hf : false = fr) : gNe (.int i) (.int j) = some (d, fr) := by rw [g_ne, h, hf]
/-! statements -/
variable {s t : SF} {out : Out}
theorem w_seq (h : s env = .nx e1) (h2 : t e1 = out) : seqS s t env = out := by
  unfold seqS
  rw [h]
  exact h2
theorem w_seqr (h : s env = .rt d fr) : seqS s t env = .rt d fr := by
  unfold seqS
  rw [h]
theorem w_set (h : f env = some (d, fr, e1)) : sSet i f env = .nx (e1.set i (some (d, fr))) := by
  unfold sSet
  rw [h]
theorem w_ret (h : f env = some (d, fr, e1)) : sRet f env = .rt d fr := by
  unfold sRet
  rw [h]
theorem w_drop (h : f env = some (d, fr, e1)) : sDrop f env = .nx e1 := by
  unfold sDrop
  rw [h]
theorem w_if (h : c env = some (b, e1)) (h1 : b = true → s e1 = out) (h2 : b = false → t e1 = out) : sIf c s t env = out := by
  unfold sIf
  rw [h]
  cases b with
  | true => exact h1 rfl
  | false => exact h2 rfl
theorem w_ift (h : c env = some (b, e1)) (hb : b = true) (h1 : s e1 = out) : sIf c s t env = out := w_if h (fun _ => h1) fun z => by rw [hb] at z; cases z
theorem w_iff (h : c env = some (b, e1)) (hb : b = false) (h1 : t e1 = out) : sIf c s t env = out := w_if h (fun z => by rw [hb] at z; cases z) fun _ => h1
theorem w_asg {g : GF} (h : f env = some (d, fr, e1)) (h2 : g d e1 = some e2) : sAsg f g env = .nx e2 := by
  unfold sAsg
  rw [h]
  simp only
  rw [h2]
theorem w_app {ds' : List PyData} (h0 : env[i]? = some (some (.list ds, true))) (h : f env = some (d, fr, e1)) (h1 : e1[i]? = some (some (.list ds', true))) (hl : ds.length < 1000) (hl' : ds'.length < 1000) : sApp i f env = .nx (e1.set i (some (.list (ds' ++ [d]), true))) := by
  unfold sApp
  rw [h0]
  simp only
  rw [if_pos hl, h]
  simp only
  rw [h1]
  simp only
  rw [if_pos hl']
theorem w_aug {op : Int → Int → Int} {x y : Int} (h0 : env[i]? = some (some (.int x, false))) (h : f env = some (.int y, fr, e1)) : sAug i op f env = .nx (e1.set i (some (.int (op x y), false))) := by
  unfold sAug
  rw [h0]
  simp only
  rw [h]
theorem w_setIx {k : Int} {j : Nat} (h : f env = some (d, fr, e1)) (h2 : fa e1 = some (.int k, e2)) (h3 : e2[i]? = some (some (.list ds, true))) (h4 : ixN ds.length k = some j) : sSetIx i f fa env = .nx (e2.set i (some (.list (ds.set j d), true))) := by
  unfold sSetIx
  rw [h]
  simp only
  rw [h2]
  simp only
  rw [h3]
  simp only
  rw [h4]
theorem w_for {fi : AF} {g : GF} (h : fi env = some (ds, e1)) (h2 : loopS g s ds e1 = out) : sFor fi g s env = out := by
  unfold sFor
  rw [h]
  exact h2
theorem w_while {c : TF} (P : En → Prop) (μ : En → Nat) (h : ∀ env, P env → (c env = some (false, env)) ∨ ∃ e2, c env = some (true, env) ∧ s env = .nx e2 ∧ P e2 ∧ μ e2 < μ env) : ∀ (n : Nat) (env : En), P env → μ env < n → ∃ e, whileS c s n env = .nx e ∧ P e ∧ c e = some (false, e)
  | 0, _, _, hm => by omega
  | n + 1, env, hp, hm => by
    unfold whileS
    rcases h env hp with h1 | ⟨e2, h1, h2, h3, h4⟩
    · refine ⟨env, ?_, hp, h1⟩
      rw [h1]
    · obtain ⟨e, q1, q2, q3⟩ := w_while P μ h n e2 h3 (by omega)
      refine ⟨e, ?_, q2, q3⟩
      rw [h1]
      simp only
      rw [h2]
      exact q1
theorem v_ir1 {m : Int} (h : as env = some ([.int m], e1)) (h0 : -(2 ^ 62) ≤ m ∧ m < 2 ^ 62) : iR1 as env = some (intsD 0 m.toNat, e1) := by
  unfold iR1
  rw [h]
  simp only
  rw [if_pos h0]
theorem v_ir2 {l m : Int} (h : as env = some ([.int l, .int m], e1)) (h0 : -(2 ^ 62) ≤ l ∧ l < 2 ^ 62 ∧ -(2 ^ 62) ≤ m ∧ m < 2 ^ 62) : iR2 as env = some (intsD l (m - l).toNat, e1) := by
  unfold iR2
  rw [h]
  simp only
  rw [if_pos h0]
theorem v_il (h : f env = some (.list ds, fr, e1)) : iL f env = some (ds, e1) := by
  unfold iL
  rw [h]
theorem v_ilw (h : fa env = some (.list ds, e1)) : iLw fa env = some (ds, e1) := by
  unfold iLw
  rw [h]
theorem v_it (h : f env = some (.tuple ds, fr, e1)) : iT f env = some (ds, e1) := by
  unfold iT
  rw [h]
theorem v_lc {fi : AF} {g : GF} {vs : List Nat} {xs : List PyData} (h : fi env = some (xs, e1)) (hl : xs.length ≤ 1000) (h2 : lcLoop g c f vs xs (wipeE e1 vs) = some (ds, e2)) : eLc fi g c f vs env = some (.list ds, true, e2) := by
  unfold eLc
  rw [h]
  simp only
  rw [if_pos hl, h2]
theorem v_lcR {as : AF} {g : GF} {vs : List Nat} {m : Nat} (h : as env = some ([.int (m : Int)], e1)) (hm : m ≤ 1000) (h2 : lcLoop g c f vs ((List.range m).map fun (i : Nat) => PyData.int (0 + (i : Int))) (wipeE e1 vs) = some (ds, e2)) : eLc (iR1 as) g c f vs env = some (.list ds, true, e2) := by
  refine v_lc (v_ir1 h (by omega)) ?_ ?_
  · rw [intsD_len, Int.toNat_natCast]
    exact hm
  · rw [Int.toNat_natCast]
    exact h2
/-- a loop whose turns take the items by an invariant over (items left, state) -/
theorem loop_nx {g : GF} {fb : SF} (P : List PyData → En → Prop) (h : ∀ x xs env, P (x :: xs) env → ∃ e1 e2, g x env = some e1 ∧ (fb e1 = .nx e2 ∨ fb e1 = .ct e2) ∧ P xs e2) : ∀ (xs : List PyData) (env : En), P xs env → ∃ e, loopS g fb xs env = .nx e ∧ P [] e
  | [], env, p => ⟨env, rfl, p⟩
  | x :: xs, env, p => by
    obtain ⟨e1, e2, h1, h2, h3⟩ := h x xs env p
    obtain ⟨e, h4, h5⟩ := loop_nx P h xs e2 h3
    refine ⟨e, ?_, h5⟩
    unfold loopS
    rw [h1]
    simp only
    rcases h2 with h2 | h2 <;> rw [h2] <;> exact h4
/-- .. told by the number of turns -/
theorem loop_ix {g : GF} {fb : SF} (xs : List PyData) (P : Nat → En → Prop) (h : ∀ (k : Nat) (hk : k < xs.length) env, P k env → ∃ e1 e2, g xs[k] env = some e1 ∧ (fb e1 = .nx e2 ∨ fb e1 = .ct e2) ∧ P (k + 1) e2) {env : En} (h0 : P 0 env) : ∃ e, loopS g fb xs env = .nx e ∧ P xs.length e := by
  have := loop_nx (g := g) (fb := fb) (fun l e => ∃ k, k ≤ xs.length ∧ l = xs.drop k ∧ P k e) (fun x l e hp => by
    obtain ⟨k, hk, hl, hp⟩ := hp
    have hk' : k < xs.length := by
      rcases Nat.lt_or_ge k xs.length with q | q
      · exact q
      · rw [List.drop_eq_nil_of_le q] at hl
        cases hl
    rw [List.drop_eq_getElem_cons hk'] at hl
    obtain ⟨hx, hl⟩ := List.cons.inj hl
    obtain ⟨e1, e2, h1, h2, h3⟩ := h k hk' e hp
    exact ⟨e1, e2, by rw [hx]; exact h1, h2, k + 1, hk', hl, h3⟩) xs env ⟨0, Nat.zero_le _, rfl, h0⟩
  obtain ⟨e, h1, k, hk, hl, hp⟩ := this
  have hk2 : xs.length ≤ k := List.drop_eq_nil_iff.mp hl.symm
  have : k = xs.length := by omega
  subst this
  exact ⟨e, h1, hp⟩
/-- a comprehension whose turns leave the state as it is -/
theorem lc_map {g : GF} {vs : List Nat} {e0 : En} {α : Type} (enc : α → PyData) (val : α → PyData) (keep : α → Bool) : ∀ (l : List α)
    (h : ∀ a ∈ l, ∃ e1, g (enc a) e0 = some e1 ∧ c e1 = some (keep a, e1) ∧ wipeE e1 vs = e0 ∧ (keep a = true → ∃ fr, f e1 = some (val a, fr, e1))), lcLoop g c f vs (l.map enc) e0 = some ((l.filter keep).map val, e0)
  | [], _ => rfl
  | a :: l, h => by
    obtain ⟨e1, h1, h2, h3, h4⟩ := h a List.mem_cons_self
    have ih := lc_map enc val keep l fun b hb => h b (List.mem_cons_of_mem _ hb)
    rw [List.map_cons]
    unfold lcLoop
    rw [h1]
    simp only
    rw [h2]
    cases hk : keep a with
    | true =>
      obtain ⟨fr, h5⟩ := h4 hk
      simp only
      rw [h5]
      simp only
      rw [h3, ih]
      simp only [List.filter_cons, hk, if_true, List.map_cons]
    | false =>
      simp only
      rw [h3, ih]
      simp only [List.filter_cons, hk, Bool.false_eq_true, if_false]
theorem w_set' (h : f env = some (d, fr, e1)) (ho : Out.nx (e1.set i (some (d, fr))) = out) : sSet i f env = out := (w_set h).trans ho
theorem w_app' {ds' : List PyData} (h0 : env[i]? = some (some (.list ds, true))) (h : f env = some (d, fr, e1)) (h1 : e1[i]? = some (some (.list ds', true))) (hl : ds.length < 1000) (hl' : ds'.length < 1000) (ho : Out.nx (e1.set i (some (.list (ds' ++ [d]), true))) = out) : sApp i f env = out := (w_app h0 h h1 hl hl').trans ho
theorem w_aug' {op : Int → Int → Int} {x y : Int} (h0 : env[i]? = some (some (.int x, false))) (h : f env = some (.int y, fr, e1)) (ho : Out.nx (e1.set i (some (.int (op x y), false))) = out) : sAug i op f env = out := (w_aug h0 h).trans ho
theorem w_setIx' {k : Int} {j : Nat} (h : f env = some (d, fr, e1)) (h2 : fa e1 = some (.int k, e2)) (h3 : e2[i]? = some (some (.list ds, true))) (h4 : ixN ds.length k = some j) (ho : Out.nx (e2.set i (some (.list (ds.set j d), true))) = out) : sSetIx i f fa env = out := (w_setIx h h2 h3 h4).trans ho
theorem w_ret' (h : f env = some (d, fr, e1)) (ho : Out.rt d fr = out) : sRet f env = out := (w_ret h).trans ho
theorem intsD_at {lo : Int} {n k : Nat} (h : k < (intsD lo n).length) : (intsD lo n)[k] = .int (lo + (k : Int)) := by
  have hk : k < n := by rw [intsD_len] at h; exact h
  have := intsD_get (lo := lo) hk
  rw [List.getElem?_eq_getElem h] at this
  exact Option.some.inj this
/-- a loop over whole numbers lo, lo + 1, .. -/
theorem loop_rg {g : GF} {fb : SF} {lo : Int} {n : Nat} (P : Nat → En → Prop) (h0 : P 0 env) (h : ∀ (k : Nat), k < n → ∀ env, P k env → ∃ e1 e2, g (.int (lo + (k : Int))) env = some e1 ∧ (fb e1 = .nx e2 ∨ fb e1 = .ct e2) ∧ P (k + 1) e2) : ∃ e, loopS g fb (intsD lo n) env = .nx e ∧ P n e := by
  have := loop_ix (g := g) (fb := fb) (intsD lo n) P (fun k hk env hp => by
    rw [intsD_at hk]
    exact h k (by rw [intsD_len] at hk; exact hk) env hp) h0
  rw [intsD_len] at this
  exact this
/-- a loop over the data of a list -/
theorem loop_map {g : GF} {fb : SF} {α : Type} (enc : α → PyData) (l : List α) (P : Nat → En → Prop) (h0 : P 0 env) (h : ∀ (k : Nat) (hk : k < l.length) env, P k env → ∃ e1 e2, g (enc l[k]) env = some e1 ∧ (fb e1 = .nx e2 ∨ fb e1 = .ct e2) ∧ P (k + 1) e2) : ∃ e, loopS g fb (l.map enc) env = .nx e ∧ P l.length e := by
  have := loop_ix (g := g) (fb := fb) (l.map enc) P (fun k hk env hp => by
    rw [List.getElem_map]
    exact h k (by rw [List.length_map] at hk; exact hk) env hp) h0
  rw [List.length_map] at this
  exact this
/-- .. by a fold of a state -/
theorem loop_fold {g : GF} {fb : SF} {α β : Type} (enc : α → PyData) (step : β → α → β) (st : β → En → Prop) : ∀ (l : List α) (s : β) (env : En), st s env → (∀ s a env, a ∈ l → st s env → ∃ e1 e2, g (enc a) env = some e1 ∧ (fb e1 = .nx e2 ∨ fb e1 = .ct e2) ∧ st (step s a) e2) →
    ∃ e, loopS g fb (l.map enc) env = .nx e ∧ st (l.foldl step s) e
  | [], s, env, h, _ => ⟨env, rfl, h⟩
  | a :: l, s, env, h, hs => by
    obtain ⟨e1, e2, h1, h2, h3⟩ := hs s a env List.mem_cons_self h
    obtain ⟨e, h4, h5⟩ := loop_fold enc step st l (step s a) e2 h3 fun s b env hb => hs s b env (List.mem_cons_of_mem _ hb)
    refine ⟨e, ?_, h5⟩
    rw [List.map_cons]
    unfold loopS
    rw [h1]
    simp only
    rcases h2 with h2 | h2 <;> rw [h2] <;> exact h4
theorem g_ix2 {x y : PyData} {i : Int} (h : i = 0 ∨ i = 1) : gIx (.list [x, y]) (.int i) = some (if i = 0 then x else y, false) := by
  rcases h with h | h <;> subst h <;> rfl
theorem g_ixm {α : Type} {enc : α → PyData} {l : List α} {i : Int} (h0 : 0 ≤ i) (h : i.toNat < l.length) : gIx (.list (l.map enc)) (.int i) = some (enc l[i.toNat], false) := by
  refine g_ixL ?_
  have e : atI (l.map enc) ((i.toNat : Nat) : Int) = some (enc l[i.toNat]) := atI_nat (by rw [List.getElem?_map, List.getElem?_eq_getElem h]; rfl)
  rw [show ((i.toNat : Nat) : Int) = i by omega] at e
  exact e
end
section
variable {α β : Type}
theorem cutA_from (xs : List α) {k : Int} (h : 0 ≤ k) : cutA xs (some k) none = xs.drop k.toNat := by
  obtain ⟨n, rfl⟩ := Int.eq_ofNat_of_zero_le h
  unfold cutA
  rw [show HT.sIx xs.length 0 (some (n : Int)) = min n xs.length from HT.sIx_nat xs.length 0 n, HT.sIx_none, Int.toNat_natCast]
  rcases Nat.le_total n xs.length with q | q
  · rw [Nat.min_eq_left q]
    exact List.take_of_length_le (by rw [List.length_drop]; exact Nat.le_refl _)
  · rw [Nat.min_eq_right q, List.drop_eq_nil_of_le (Nat.le_refl _), List.drop_eq_nil_of_le q, List.take_nil]
theorem cutA_to (xs : List α) {k : Int} (h : 0 ≤ k) : cutA xs none (some k) = xs.take k.toNat := by
  obtain ⟨n, rfl⟩ := Int.eq_ofNat_of_zero_le h
  unfold cutA
  rw [show HT.sIx xs.length xs.length (some (n : Int)) = min n xs.length from HT.sIx_nat xs.length xs.length n, HT.sIx_none, Int.toNat_natCast, Nat.sub_zero, List.drop_zero]
  rcases Nat.le_total n xs.length with q | q
  · rw [Nat.min_eq_left q]
  · rw [Nat.min_eq_right q, List.take_of_length_le (Nat.le_refl _), List.take_of_length_le q]
theorem cutA_mid (xs : List α) {j k : Int} (h : 0 ≤ j) (h2 : 0 ≤ k) : cutA xs (some j) (some k) = (xs.take k.toNat).drop j.toNat := by
  obtain ⟨n, rfl⟩ := Int.eq_ofNat_of_zero_le h
  obtain ⟨m, rfl⟩ := Int.eq_ofNat_of_zero_le h2
  unfold cutA
  rw [show HT.sIx xs.length 0 (some (n : Int)) = min n xs.length from HT.sIx_nat xs.length 0 n, show HT.sIx xs.length xs.length (some (m : Int)) = min m xs.length from HT.sIx_nat xs.length xs.length m, Int.toNat_natCast, Int.toNat_natCast, List.drop_take]
  have e1 : xs.drop (min n xs.length) = xs.drop n := by
    rcases Nat.le_total n xs.length with q | q
    · rw [Nat.min_eq_left q]
    · rw [Nat.min_eq_right q, List.drop_eq_nil_of_le (Nat.le_refl _), List.drop_eq_nil_of_le q]
  rw [e1]
  refine List.ext_getElem? fun i => ?_
  rw [List.getElem?_take, List.getElem?_take, List.getElem?_drop]
  by_cases h3 : n + i < xs.length
  · by_cases h4 : i < m - n
    · rw [if_pos (by omega), if_pos h4]
    · rw [if_neg (by omega), if_neg h4]
  · have e2 : xs[n + i]? = none := List.getElem?_eq_none (by omega)
    rw [e2]
    split <;> split <;> rfl
theorem map_cut (f : α → β) (xs : List α) (lo hi : Option Int) : cutA (xs.map f) lo hi = (cutA xs lo hi).map f := by
  unfold cutA
  rw [List.length_map, List.map_take, List.map_drop]
end
/-! == of data that can be laid -/
def Lay (n : Nat) (d : PyData) : Prop := d.canLay0 = true ∧ d.depth ≤ n
theorem lay_int {n : Nat} (i : Int) : Lay n (.int i) := ⟨rfl, Nat.zero_le _⟩
theorem lay_all {n : Nat} : ∀ {ds : List PyData}, (∀ d ∈ ds, Lay n d) → PyData.canLayAll0 ds = true ∧ PyData.depthAll ds ≤ n
  | [], _ => ⟨rfl, Nat.zero_le _⟩
  | d :: ds, h => by
    obtain ⟨a, b⟩ := lay_all fun x hx => h x (List.mem_cons_of_mem _ hx)
    obtain ⟨a1, b1⟩ := h d List.mem_cons_self
    refine ⟨?_, ?_⟩
    · simp only [PyData.canLayAll0, a, a1, Bool.and_self]
    · simp only [PyData.depthAll]
      omega
theorem lay_list {n : Nat} {ds : List PyData} (h : ∀ d ∈ ds, Lay n d) : Lay (n + 1) (.list ds) := by
  obtain ⟨a, b⟩ := lay_all h
  refine ⟨by simpa [PyData.canLay0] using a, ?_⟩
  simp only [PyData.depth]
  omega
theorem lay_tup {n : Nat} {ds : List PyData} (h : ∀ d ∈ ds, Lay n d) : Lay (n + 1) (.tuple ds) := by
  obtain ⟨a, b⟩ := lay_all h
  refine ⟨by simpa [PyData.canLay0] using a, ?_⟩
  simp only [PyData.depth]
  omega
theorem lay_shaped {n : Nat} {d : PyData} (h : Lay n d) (hn : n ≤ 64) : SeqAt.shaped d = true := by
  unfold SeqAt.shaped
  rw [h.1, decide_eq_true (Nat.le_trans h.2 hn)]
  rfl
theorem lay_ints (ns : List Int) : Lay 1 (.list (ns.map .int)) := lay_list (n := 0) fun d hd => by
  obtain ⟨i, _, rfl⟩ := List.mem_map.mp hd
  exact lay_int i
theorem lay_intss (ns : List (List Int)) : Lay 2 (.list (ns.map fun l => .list (l.map .int))) := lay_list (n := 1) fun d hd => by
  obtain ⟨l, _, rfl⟩ := List.mem_map.mp hd
  exact lay_ints l
theorem eqD_same {x : PyData} (h : SeqAt.shaped x = true) : gEq x x = some (.bool true, false) := by
  unfold gEq eqD
  split
  · rw [decide_eq_true rfl]
    rfl
  · rw [h, SeqAt.eqv_refl x (SeqAt.canLay_of_shaped h)]
    rfl
theorem neD_same {x : PyData} (h : SeqAt.shaped x = true) : gNe x x = some (.bool false, false) := by
  unfold gNe eqD
  split
  · rw [decide_eq_true rfl]
    rfl
  · rw [h, SeqAt.eqv_refl x (SeqAt.canLay_of_shaped h)]
    rfl
theorem eqD_nil {ds : List PyData} (h : SeqAt.shaped (.list ds) = true) : eqD (.list ds) (.list []) = some ds.isEmpty := by
  unfold eqD
  simp only
  rw [h]
  cases ds with
  | nil => rfl
  | cons a b => rfl
theorem gNe_nil {ds : List PyData} (h : SeqAt.shaped (.list ds) = true) : gNe (.list ds) (.list []) = some (.bool (!ds.isEmpty), false) := by
  unfold gNe
  rw [eqD_nil h]
  rfl
theorem gEq_nil {ds : List PyData} (h : SeqAt.shaped (.list ds) = true) : gEq (.list ds) (.list []) = some (.bool ds.isEmpty, false) := by
  unfold gEq
  rw [eqD_nil h]
  rfl
end Fw
namespace Fw
open PySem PySem.Spec PyProof.Rows L2 Evl
/-! by hand: what a law does to the answers that it was told -/
def nil : Hp := fun _ => none
/-- every object is shared, for a look at some names -/
theorem adhoc {H : Hp} {σ : L2.St} {env : En} (hl : σ.length = env.length) (h : ∀ (i : Nat) (d : PyData) (b : Bool), env[i]? = some (some (d, b)) → b = false ∧ ∃ v, σ[i]? = some (some v) ∧ Dq H v d) : SRel nil nil nil H H σ env := by
  refine ⟨Ex.refl H, fun b o q => (nomatch (show none = some o from q)), fun b o q => (nomatch (show none = some o from q)), fun b o q => (nomatch (show none = some o from q)), fun _ _ _ _ => rfl, fun i d q => ?_, fun i d q => ?_, fun i j d e a _ q => ?_, hl⟩
  · obtain ⟨_, v, h1, h2⟩ := h i d false q
    exact ⟨v, h1, .of h2⟩
  · have := (h i d true q).1
    cases this
  · have := (h i d true q).1
    cases this
theorem wipeE_get {env : En} {i : Nat} {x : PyData × Bool} : ∀ {vs : List Nat}, (wipeE env vs)[i]? = some (some x) → env[i]? = some (some x) ∧ i ∉ vs
  | [], h => ⟨h, by simp⟩
  | v :: vs, h => by
    have h' : ((wipeE env vs).set v none)[i]? = some (some x) := h
    by_cases hi : v = i
    · subst hi
      by_cases hv : v < (wipeE env vs).length
      · rw [List.getElem?_set_self hv] at h'
        cases h'
      · rw [List.getElem?_eq_none (by rw [List.length_set]; omega)] at h'
        cases h'
    · rw [List.getElem?_set_ne hi] at h'
      obtain ⟨h1, h2⟩ := wipeE_get h'
      exact ⟨h1, by simp only [List.mem_cons, not_or]; exact ⟨fun e => hi e.symm, h2⟩⟩
theorem wipeE_len (env : En) : ∀ vs : List Nat, (wipeE env vs).length = env.length
  | [] => rfl
  | v :: vs => by
    show ((wipeE env vs).set v none).length = _
    rw [List.length_set, wipeE_len env vs]
/-- other slots, a grown heap: what is known of the rest stays -/
theorem SRel.other_slots {B H0 R0 R H H' : Hp} {σ σ' : L2.St} {env : En} {js : List Nat} (S : SRel B H0 R0 R H σ env) (e : Ex H H') (h : ∀ j, j ∉ js → σ'[j]? = σ[j]?) (hl : σ'.length = σ.length) : SRel B H0 R0 R H' σ' (wipeE env js) := by
  refine ⟨S.rh.trans e, S.r0, S.h0.trans e, S.bb, S.new, fun i d q => ?_, fun i d q => ?_, fun i j d x a hij q1 q2 q3 q4 => ?_, by rw [hl, wipeE_len]; exact S.len⟩
  · obtain ⟨h1, h2⟩ := wipeE_get q
    obtain ⟨v, h3, h4⟩ := S.slot i d h1
    exact ⟨v, (h i h2).trans h3, h4⟩
  · obtain ⟨h1, h2⟩ := wipeE_get q
    obtain ⟨a, vs, ds, h3, h4, h5, h6⟩ := S.own i d h1
    exact ⟨a, vs, ds, h3, (h i h2).trans h4, e _ _ h5, h6⟩
  · obtain ⟨h1, h2⟩ := wipeE_get q1
    obtain ⟨h3, h4⟩ := wipeE_get q2
    rw [h i h2] at q3
    rw [h j h4] at q4
    exact S.dis i j d x a hij h1 h3 q3 q4
/-- the tuples of a heap -/
def tupsOf (R : Hp) : Hp := fun b => match R b with
  | some (.tup xs) => some (.tup xs)
  | _ => none
theorem tups_ex (R : Hp) : Ex (tupsOf R) R := fun b o q => by
  unfold tupsOf at q
  split at q
  · rename_i xs h
    cases q
    exact h
  · cases q
theorem tups_no {R : Hp} {b : Addr} {xs : List V} : tupsOf R b ≠ some (.lst xs) := fun q => by
  unfold tupsOf at q
  split at q <;> cases q
/-! data without lists lean on tuples alone -/
mutual
def noL : PyData → Bool
  | .none => true
  | .bool _ => true
  | .int _ => true
  | .str _ => true
  | .list _ => false
  | .dict _ => false
  | .tuple ds => noLs ds
def noLs : List PyData → Bool
  | [] => true
  | d :: ds => noL d && noLs ds
end
mutual
theorem dq_tups {R : Hp} : ∀ {d : PyData} {v : V}, noL d = true → Dq R v d → Dq (tupsOf R) v d
  | .none, _, _, h => by cases h; exact .non
  | .bool _, _, _, h => by cases h; exact .bl _
  | .int _, _, _, h => by cases h; exact .int _
  | .str _, _, _, h => by cases h; exact .str _
  | .list _, _, n, _ => by simp [noL] at n
  | .dict _, _, n, _ => by simp [noL] at n
  | .tuple ds, _, n, h => by
    cases h with
    | @tup a xs _ e q =>
      refine Dq.tup (xs := xs) ?_ (dqa_tups (by simpa [noL] using n) q)
      unfold Rq tupsOf
      rw [e]
theorem dqa_tups {R : Hp} : ∀ {ds : List PyData} {vs : List V}, noLs ds = true → DqAll R vs ds → DqAll (tupsOf R) vs ds
  | [], _, _, h => by cases h; exact .nil
  | d :: ds, _, n, h => by
    cases h with
    | cons a b =>
      have n' := Bool.and_eq_true_iff.mp (by simpa [noLs] using n)
      exact .cons (dq_tups n'.1 a) (dqa_tups n'.2 b)
end
/-- a list that is told: where a cell stands that stood nowhere before, with whole numbers in it -/
def NewInts (H1 H : Hp) (v : V) : Prop := ∃ (b : Addr) (ns : List Int), v = .ref b ∧ H b = some (.lst (ns.map V.int)) ∧ ns.length < 900 ∧ H1 b = none
theorem new_of {R R' H1 H : Hp} (hr : Ex R' H) (hn : ∀ b o, R' b = some o → tupsOf R b = none → H1 b = none) {v : V} {ns : List Int} (hl : ns.length < 900) (hx : Ex (tupsOf R) R') (h : Dq R' v (.list (ns.map .int))) : NewInts H1 H v := by
  cases h with
  | @lst a xs ds e q =>
    have ev := dpa_ints q
    subst ev
    refine ⟨a, ns, rfl, hr _ _ e, hl, hn a _ e ?_⟩
    cases hq : tupsOf R a with
    | none => rfl
    | some o =>
      have h2 := hx a o hq
      have e' : R' a = some (.lst (ns.map V.int)) := e
      rw [e'] at h2
      cases h2
      exact absurd hq tups_no
section
variable {X : Cx}
/-- for x in xs: if ..: return False; x.append(z), over lists of whole numbers that stood nowhere before -/
theorem priv_for {K : PySem.W.Frag} {c : TF} {tr : TS} {l i : Nat} {z : Int} {D : Ends} {σ : L2.St} {H1 H : Hp} {a : Addr} {vs : List V} (hli : l ≠ i) (hs : i < σ.length) (hl : σ[l]? = some (some (.ref a))) (e : Ex H1 H) (ha : H a = some (.lst vs))
    (hvl : vs.length ≤ 90) (hna : ∀ ns : List Int, vs ≠ ns.map V.int) (hin : ∀ v ∈ vs, NewInts H1 H v)
    (hc : ∀ (ns : List Int) (env : En), ns.length < 1000 → env = (List.replicate σ.length none).set i (some (.list (ns.map .int), false)) → ∃ e', c env = some (false, e'))
    (hD : ∀ σ2 H2, (∀ j, j ∉ [i] → σ2[j]? = σ[j]?) → σ2.length = σ.length → Ex H1 H2 → H2 a = some (.lst vs) → D.nx σ2 H2) :
    tFor (iList K (tVar l)) (gName i) (tSeq (tIfS (tT c) tr tNext) (tDrop (tBM K "list" rAppend (tVar i) (tCons (tC (.int z)) tNil)))) D σ H := by
  refine ⟨_, hl, a, rfl, ⟨vs, .inl (.inl ha)⟩, ?_⟩
  refine for_list (xs := vs) (fun k σ2 H2 => (∀ j, j ∉ [i] → σ2[j]? = σ[j]?) ∧ σ2.length = σ.length ∧ Ex H1 H2 ∧ H2 a = some (.lst vs) ∧ ∀ j v, vs[j]? = some v → ∃ (b : Addr) (ns : List Int), v = V.ref b ∧ H2 b = some (.lst (ns.map V.int)) ∧ ns.length < 900 + k ∧ H1 b = none)
    ⟨fun _ _ => rfl, rfl, e, ha, fun j v hj => (show NewInts H1 H v from hin v (List.mem_of_getElem? hj))⟩ (fun k σ2 H2 _ hp => .inl (.inl hp.2.2.2.1)) (fun k x σ2 H2 hx hp => ?_) fun σ2 H2 hp => hD σ2 H2 hp.1 hp.2.1 hp.2.2.1 hp.2.2.2.1
  obtain ⟨h1, h2, h3, h4, h5⟩ := hp
  obtain ⟨b, ns, rfl, hb, hn, hb1⟩ := h5 k x hx
  have hk : k < vs.length := (List.getElem?_eq_some_iff.mp hx).1
  have hi2 : i < σ2.length := by rw [h2]; exact hs
  have hget : (σ2.set i (some (V.ref b)))[i]? = some (some (V.ref b)) := List.getElem?_set_self hi2
  obtain ⟨e', he'⟩ := hc ns _ (by omega) rfl
  refine ⟨nil, nil, nil, H2, _, false, e', adhoc ?_ (fun j d bb q => ?_), he', fun R' H3 S3 _ e3 => iteF ?_⟩
  · rw [List.length_set, List.length_set, List.length_replicate, h2]
  · by_cases hj : j = i
    · subst hj
      rw [List.getElem?_set_self (by rw [List.length_replicate]; exact hs)] at q
      cases q
      exact ⟨rfl, _, hget, .lst hb (dpa_of_ints ns)⟩
    · rw [List.getElem?_set_ne (Ne.symm hj), List.getElem?_replicate] at q
      split at q <;> cases q
  · have hb3 := e3 b _ hb
    refine ⟨_, hget, .inl ⟨rfl, _, .inl (.inl hb3)⟩, b, ns.map V.int, .int z, rfl, rfl, hb3, ?_, fun j hj => ?_, ?_, Ex.mut (h3.trans e3) hb1, ?_, fun j v hj => ?_⟩
    · rw [List.length_map]
      exact Nat.lt_of_lt_of_le (show ns.length < 1000 by omega) (by decide)
    · have : j ≠ i := fun z => hj (by rw [z]; exact List.mem_singleton.mpr rfl)
      rw [List.getElem?_set_ne (Ne.symm this)]
      exact h1 j hj
    · rw [List.length_set]
      exact h2
    · have hab : a ≠ b := fun z => by
        subst z
        rw [h4] at hb
        exact hna ns (HO.lst.inj (Option.some.inj hb))
      rw [upd_ne hab]
      exact e3 a _ h4
    · obtain ⟨b', ns', rfl, q1, q2, q3⟩ := h5 j v hj
      by_cases hbb : b' = b
      · subst hbb
        refine ⟨b', ns ++ [z], rfl, ?_, ?_, hb1⟩
        · rw [upd_same, List.map_append]
          rfl
        · rw [List.length_append]
          exact Nat.succ_lt_succ hn
      · refine ⟨b', ns', rfl, ?_, by omega, q3⟩
        rw [upd_ne hbb]
        exact e3 b' _ q1
end
section
variable {X : Cx}
theorem tS_step {f : SF} {u : TS} {D : Ends} {B H0 R0 R H : Hp} {σ : L2.St} {env e1 : En} (S : SRel B H0 R0 R H σ env) (h : f env = .nx e1) (k : ∀ σ' R' H', SRel B H0 R0 R' H' σ' e1 → Ex R R' → u D σ' H') : tSeq (tS f) u D σ H := by
  refine ⟨B, H0, R0, R, env, S, ?_⟩
  rw [h]
  exact k
/-- a call, as the callee's promise tells it -/
theorem qe_callR {k : Nat} {ms : List Bool} {g : List PyData → Option (PyData × Bool)} {x : Str} {p pos : Pos} {e : Expr} {es : List Expr} {t : TA} (h : Has X.prog X.w X.K X.mg X.base k x g ms) (hr : Room k X.A) (hg : Gl X x) (ha : PA X (e :: es) t)
    (hdb : (x == ("__debug__" : Str)) = false := by decide) (he : starEach (e :: es) X.env = (false, eval e X.env) :: starEach es X.env := by rfl) (hpl : (backTo pos (starEach es X.env)).any (·.1) = false := by rfl) :
    PE X (.Call (.Name x p) (e :: es) [] pos) (tCall (spD g ms) [] E0 t) := by
  obtain ⟨f, fd, ps, hm, hk, hb, F⟩ := h
  exact pe_call F hr hg hm hk hb .nil pass0 ha hdb he hpl
theorem SRel.int_at {B H0 R0 R H : Hp} {σ : L2.St} {env : En} {i : Nat} {n : Int} (S : SRel B H0 R0 R H σ env) (h : env[i]? = some (some (.int n, false))) : σ[i]? = some (some (.int n)) := by
  obtain ⟨v, h1, h2⟩ := S.slot i _ h
  have h3 := h2.dq rfl
  cases h3
  exact h1
theorem SRel.list_at {B H0 R0 R H : Hp} {σ : L2.St} {env : En} {i : Nat} {ds : List PyData} {o : Bool} (S : SRel B H0 R0 R H σ env) (h : env[i]? = some (some (.list ds, o))) : ∃ a vs, σ[i]? = some (some (.ref a)) ∧ H a = some (.lst vs) ∧ DqAll R vs ds := by
  cases o with
  | true =>
    obtain ⟨a, vs, es, e, h1, h2, h3, h4, h5⟩ := S.own i _ h
    cases e
    exact ⟨a, vs, h1, h2, h5⟩
  | false =>
    obtain ⟨v, h1, h2⟩ := S.slot i _ h
    cases h2.dq rfl with
    | @lst a vs _ q1 q2 => exact ⟨a, vs, h1, S.rh _ _ q1, q2⟩
theorem NewInts.mono {H1 H H' : Hp} {v : V} (e : Ex H H') (h : NewInts H1 H v) : NewInts H1 H' v := by
  obtain ⟨b, ns, h1, h2, h3, h4⟩ := h
  exact ⟨b, ns, h1, e _ _ h2, h3, h4⟩
end
end Fw
namespace Fw
open PySem PySem.Spec PyProof.Rows L2

/-! enumerate over a tuple -/
set_option maxHeartbeats 1000000 in
theorem newEn {v : Value} {o : Obj} {C : Heap → Prop} (B : Begins v o C) : Meets (Builtin.«enumerate.__new__» ⟨[.type "enumerate", v], []⟩) (fun _ R s => C s.heap ∧
    R (.ok (.ret (.ref (s.heap.push o).objs.size))) { s with heap := (s.heap.push o).push { cls := .type "enumerate", data := .fields #[.none, .bool false, .ref s.heap.objs.size, rawInt 0, .none, .none] } }) :=
  .of_wp fun prog w A R s hs => by
    obtain ⟨hp, gl, dd, tks, oss⟩ := s; obtain ⟨hv, hr⟩ := hs
    have hsub := sub_enumerate
    have go1 : ∀ {A1 : Around} {E1 Q1 : Value → Shared → Prop}, Q1 (.ref hp.objs.size) ⟨hp.push o, gl, dd, tks, oss⟩ → wpAny (model prog w) A1 (pyIter v) Q1 E1 ⟨hp, gl, dd, tks, oss⟩ := fun q => B.iter prog w _ _ ⟨hp, gl, dd, tks, oss⟩ _ hv q
    wp_walk using go1
    refine wpAny_stack_any fun z => wpAny_pure ?_
    split
    · rename_i c1 _ _ _ _ _
      cases (c1 == Value.type "enumerate")
      all_goals
        wp_walk using go1
        exact ⟨_, rfl, hr⟩
    · wp_walk using go1
      exact ⟨_, rfl, hr⟩
section
variable {prog : Program} {w : World} {A : Around} {E : Value → Shared → Prop} {s : Shared}
theorem mkEn {v : Value} {o : Obj} {C : Heap → Prop} {Q : Value → Shared → Prop} (B : Begins v o C) (hC : C s.heap)
    (k : ∀ h', IsEnum h' (s.heap.objs.size + 1) s.heap.objs.size 0 .none → h'.get? s.heap.objs.size = some o → (∀ b ob, s.heap.get? b = some ob → h'.get? b = some ob) → Q (.ref (s.heap.objs.size + 1)) { s with heap := h' }) :
    wpAny (model prog w) A (call (.type "enumerate") [v]) Q E s := by
  refine callType_new F.called_enumerate (by decide) (F.typeCall_enumerate_1 _) (F.newCall_enumerate_1 _) (fun ob => F.args_object_init_2 ob _) F.entry_enumerate_new (newEn B) ⟨hC, ?_⟩
  have sz : (s.heap.push o).objs.size = s.heap.objs.size + 1 := Heap.size_push ..
  show _ ∧ _
  rw [sz]
  have e1 := Heap.get?_push_size (s.heap.push o) (o := { cls := .type "enumerate", data := .fields #[.none, .bool false, .ref s.heap.objs.size, rawInt 0, .none, .none] }) rfl
  rw [sz] at e1
  exact ⟨⟨_, e1, rfl⟩, k _ e1 (Heap.get?_push_of_some _ (Heap.get?_push_size _ B.free)) fun b ob q => Heap.get?_push_of_some _ (Heap.get?_push_of_some _ q)⟩
end
/-- the tuple at a, each item in a new pair -/
def Ien (K : PySem.W.Frag) (a : Addr) : It :=
  ⟨fun i H => ∃ (xs : List V) (x : V), SqT K H a xs ∧ xs[i]? = some x,
   fun i H v H' => ∃ T x, v = .ref T ∧ H T = none ∧ H' = upd H T (.tup [.int (i : Nat), x]) ∧ ∀ xs, SqT K H a xs → xs[i]? = some x,
   fun i H => ∃ xs : List V, SqT K H a xs ∧ xs.length ≤ i⟩
theorem turn_en {P : Program} {w : World} {K : PySem.W.Frag} {tgs : List Expr} {n0 : Nat} {tp : Pos} (a e it : Addr) :
    Turn P w K (.Tuple tgs n0 tp) (Ien K a) [e, it] e (fun i h => (∃ old, IsEnum h e it ((i : Nat) : Int) old) ∧ h.IsTupleIter it a i ∧ e ≠ it) where
  mem := List.mem_cons_self
  obj := fun i h st b hb => by
    obtain ⟨⟨old, he⟩, ⟨o, ho, hc, hd⟩, _⟩ := st
    rcases List.mem_cons.mp hb with z | z
    · subst z
      exact ⟨_, he, fun v q => nomatch q⟩
    · rw [List.mem_singleton.mp z]
      exact ⟨o, ho, fun v q => by rw [hd] at q; cases q⟩
  keep := fun i h h' st k => ⟨⟨st.1.choose, k e (List.mem_cons_self) _ st.1.choose_spec⟩, st.2.1.at fun o q => k it (List.mem_cons_of_mem _ List.mem_cons_self) o q, st.2.2⟩
  item := by
    intro X hP hw hK hc i pins s σ H E I hf st hg
    subst hP hw hK
    obtain ⟨⟨old, he⟩, hit, hne⟩ := st
    obtain ⟨xs, x, hq, hx⟩ := hg
    obtain ⟨its, rv, p0, hz⟩ := I.tuple hq
    have p : s.heap.IsTuple a its.toArray := p0
    have hh : X.A.in1.handled = none := I.ok.hd hc
    have ait : a ≠ it := fun z => by
      subst z
      obtain ⟨o1, h1, c1, _⟩ := hit
      obtain ⟨o2, h2, c2, _⟩ := p
      rw [h1] at h2
      cases h2
      rw [c1] at c2
      injection c2 with c3
      exact absurd c3 (by decide)
    have aen : e ≠ a := fun z => by
      subst z
      obtain ⟨o2, h2, c2, _⟩ := p
      have h1 : s.heap.get? e = _ := he
      rw [h1] at h2
      cases h2
      injection c2 with c3
      exact absurd c3 (by decide)
    have hlt : i < its.toArray.size := by
      have := (List.getElem?_eq_some_iff.mp hx).1
      have := rv.length
      simp
      omega
    have sz1 : e < s.heap.objs.size := Heap.lt_size he
    have sz2 : it < s.heap.objs.size := by
      obtain ⟨_, q, _⟩ := hit
      exact Heap.lt_size q
    refine wpAny_pyNext_enum_itemD (Draws.tuple hh it a ait its.toArray) he ⟨hit, p⟩ hlt hne (by simp [hne, aen]) fun u h' tk hP ho hst hT _ hk => ?_
    obtain ⟨u', hu', ru⟩ := rv.get hx
    have eu : u = u' := by
      have hP' : its.toArray[i]? = some u := hP
      simp only [List.getElem?_toArray] at hP'
      rw [hu'] at hP'
      exact (Option.some.inj hP').symm
    subst eu
    refine ⟨_, rfl, wpAny_letOwnedTupleGo_enum (s := { s with heap := h', toks := tk + 1 }) ho fun h2 he2 sb => ?_⟩
    have hT2 : h2.get? s.heap.objs.size = some { cls := .type "tuple", data := .seq #[.int i tk, u] } := (sb.2 _ (Nat.ne_of_gt sz1)).trans hT
    have nw : ObjOk X.prog X.w (upd H s.heap.objs.size (.tup [.int (i : Nat), x])) h2 s.heap.objs.size (.tup [.int (i : Nat), x]) := ⟨by show 2 ≤ sizeLine; decide, [.int i tk, u], .cons ⟨_, rfl⟩ (.cons ru .nil), ⟨_, hT2, rfl, _, rfl⟩⟩
    have I0 : Inv X pins σ H { s with toks := tk } := I.kept (t' := tk) fun b o q => q
    have I1 : Inv X pins σ (upd H s.heap.objs.size (.tup [.int (i : Nat), x])) { s with heap := h2, toks := tk + 1 } :=
      I0.turnedNew (ch := [e, it]) (fun b ob hb q => (sb.2 b (fun z => hb (by rw [z]; exact List.mem_cons_self))).trans (hk b ob (fun z => hb (by rw [z]; exact List.mem_cons_self)) (fun z => hb (by rw [z]; exact List.mem_cons_of_mem _ List.mem_cons_self)) q)) hf (Nat.le_refl _) nw
    refine ⟨.ref s.heap.objs.size, _, I1, rfl, ⟨_, x, rfl, I.hok.fresh (Nat.le_refl _), rfl, fun ys hy => (by rw [I.tuple_inj hy hq]; exact hx)⟩, ⟨⟨u, ?_⟩, hst.1.at fun o q => (sb.2 it (Ne.symm hne)).trans q, hne⟩, fun b hb => ?_⟩
    · rw [show ((i + 1 : Nat) : Int) = (i : Int) + 1 by omega]
      exact he2
    · have : b < s.heap.objs.size := by
        rcases List.mem_cons.mp hb with z | z
        · rw [z]
          exact sz1
        · rw [List.mem_singleton.mp z]
          exact sz2
      rw [upd_ne (Nat.ne_of_lt this)]
      exact (hf b hb).1
  done := by
    intro X hP hw hK hc i pins s σ H E I hf st hg
    subst hP hw hK
    obtain ⟨⟨old, he⟩, hit, hne⟩ := st
    obtain ⟨xs, hq, hx⟩ := hg
    obtain ⟨its, rv, p0, hz⟩ := I.tuple hq
    have p : s.heap.IsTuple a its.toArray := p0
    have hh : X.A.in1.handled = none := I.ok.hd hc
    have ait : a ≠ it := fun z => by
      subst z
      obtain ⟨o1, h1, c1, _⟩ := hit
      obtain ⟨o2, h2, c2, _⟩ := p
      rw [h1] at h2
      cases h2
      rw [c1] at c2
      injection c2 with c3
      exact absurd c3 (by decide)
    obtain ⟨f0, f1, f2, f3, f4, f5⟩ := hf it (by simp)
    have hl := rv.length
    have D : Draws X.prog X.w X.A.in1 it [it, a] i (fun _ _ => True) (fun j h => j = i ∧ h.IsTupleIter it a i ∧ h.IsTuple a its.toArray) :=
      ⟨fun j h st => (let ⟨o, ho, _⟩ := st.2.1; ⟨o, ho⟩), fun j h h' st k => ⟨st.1, st.2.1.at fun o q => k it (by simp) o q, st.2.2.at fun o q => k a (by simp) o q⟩,
       fun j s Q E hj st _ => absurd st.1 (Nat.ne_of_lt hj), fun s Q E st hE => wpAny_nextOf_tuple_end hh st.2.1 st.2.2 (by simp; omega) hE⟩
    exact wpAny_pyNext_enum_endD D he ⟨rfl, hit, p⟩ fun h' eb => ⟨rfl, I.turned (t' := s.toks) (fun b o hb q => eb b o hb q) f0 f1 f3 f4 f5⟩
  self := fun A i s Q E st h => wpAny_pyIter_enum st.1.choose_spec h
def iEn (K : PySem.W.Frag) (ta : TA) : TI := fun σ H R => ta σ H fun vs H1 => ∃ a xs, vs = [.ref a] ∧ SqT K H1 a xs ∧ R (Ien K a) H1
theorem pi_en {X : Cx} {e : Expr} {ta : TA} {p pos tp : Pos} {tgs : List Expr} {n0 : Nat} (hg : Gl X "enumerate") (hm : X.mg "enumerate" = none) (ha : PA X [e] ta) (hs : starEach [e] X.env = [(false, eval e X.env)] := by rfl) :
    PI X (.Tuple tgs n0 tp) (.Call (.Name "enumerate" p) [e] [] pos) (iEn X.K ta) := by
  refine ⟨fun pins s σ H R I h => Call_ (ld_blt I hg hm boot_enumerate (PyProof.Rows.callWith_type1 (thn (ha.run pos pins s σ H _ I h) fun us s1 ⟨vs, H1, I1, r1, q1⟩ => ?_) hs rfl))⟩
  obtain ⟨a, xs, ex, hq, q⟩ := q1
  subst ex
  cases r1 with
  | cons r rr =>
    cases rr
    cases r
    obtain ⟨its, rv, p0, hz⟩ := I1.tuple hq
    refine mkEn (begins_tuple a its.toArray) p0 fun h' he hit hk => wpAny_pyIter_enum he ?_
    have I2 : Inv X pins σ H1 { s1 with heap := h' } := I1.kept (t' := s1.toks) hk
    refine ⟨s1.heap.objs.size + 1, [s1.heap.objs.size + 1, s1.heap.objs.size], _, _, H1, rfl, I2, turn_en a (s1.heap.objs.size + 1) s1.heap.objs.size, ⟨⟨.none, he⟩, ⟨_, hit, rfl, rfl⟩, Nat.succ_ne_self _⟩, fun b hb => ?_, q⟩
    have le : s1.heap.objs.size ≤ b := by
      rcases List.mem_cons.mp hb with z | z
      · rw [z]
        exact Nat.le_succ _
      · rw [List.mem_singleton.mp z]
        exact Nat.le_refl _
    exact I1.fpOk le (I1.hok.fresh le)
theorem walk_en {K : PySem.W.Frag} {a : Addr} {xs : List V} : Walk (Ien K a) xs.length (fun H => SqT K H a xs) (YPair (fun i => some (.int (i : Nat))) (fun i => xs[i]?)) :=
  ⟨fun i _ hi q => ⟨xs, xs[i], q, by simp [hi]⟩, fun _ q => ⟨xs, q, Nat.le_refl _⟩, fun i H v H' _ q y => by
    obtain ⟨T, x, h1, h2, h3, h4⟩ := y
    exact ⟨T, .int (i : Nat), x, h1, h2, h3, rfl, h4 xs q⟩⟩
/-! places of stores that take no name's list away -/
def WSame (f : WF) : Prop := ∀ env r, f env = some r → r.2 = env
theorem same_var {i : Nat} : WSame (wVar i) := fun _ _ h => wVar_same h
theorem same_c {d : PyData} : WSame (wOf (eC d)) := fun env r h => by
  cases h
  rfl
theorem same_bin {g : PyData → PyData → Option (PyData × Bool)} {fa fb : WF} (ha : WSame fa) (hb : WSame fb) : WSame (wOf (eBin g fa fb)) := fun env r h => by
  unfold wOf eBin at h
  cases h1 : fa env with
  | none => rw [h1] at h; cases h
  | some p =>
    obtain ⟨x, e1⟩ := p
    have e2 : e1 = env := ha _ _ h1
    subst e2
    cases h2 : fb e1 with
    | none => rw [h1] at h; simp only [h2] at h; cases h
    | some p2 =>
      obtain ⟨y, e3⟩ := p2
      have e4 : e3 = e1 := hb _ _ h2
      subst e4
      rw [h1] at h
      simp only [h2] at h
      cases h3 : g x y with
      | none => rw [h3] at h; cases h
      | some z =>
        obtain ⟨d, fr⟩ := z
        rw [h3] at h
        cases h
        rfl
/-! xs[i], xs[j] = pair -/
def sSwap (i : Nat) (fe : EF) (f1 f2 : WF) : SF := fun env => match fe env with
  | some (.tuple [x, y], _, e1) => match f1 e1 with
    | some (.int k1, _) => match e1[i]? with
      | some (some (.list ds, true)) => match ixN ds.length k1 with
        | some j1 => match f2 (e1.set i (some (.list (ds.set j1 x), true))) with
          | some (.int k2, _) => match ixN ds.length k2 with
            | some j2 => .nx ((e1.set i (some (.list (ds.set j1 x), true))).set i (some (.list ((ds.set j1 x).set j2 y), true)))
            | none => .bad
          | _ => .bad
        | none => .bad
      | _ => .bad
    | _ => .bad
  | _ => .bad
section
variable {X : Cx} {e : Expr} {pos : Pos} {fe : EF} {f1 f2 : WF}
open Evl in
theorem swap_ok {K : PySem.W.Frag} {i : Nat} {D : Ends} {σ : L2.St} {H : Hp} (w1 : WSame f1) (w2 : WSame f2) (q : tS (sSwap i fe f1 f2) D σ H) : tAsg (tE fe) (gTup K 2 (gCons (L2.gSub (tVar i) (tW f1) rSetL) (gCons (L2.gSub (tVar i) (tW f2) rSetL) gNil))) D σ H := by
  obtain ⟨B, H0, R0, R, env, S, q⟩ := q
  unfold sSwap at q
  split at q
  · rename_i x y fr e1 h1
    split at q
    · rename_i k1 e2 h2
      split at q
      · rename_i ds h3
        split at q
        · rename_i j1 h4
          split at q
          · rename_i k2 e3 h5
            split at q
            · rename_i j2 h6
              have ee := w1 _ _ h2
              have ef := w2 _ _ h5
              simp only at ee ef
              subst ee ef
              refine ⟨B, H0, R0, R, env, _, fr, _, S, h1, fun w R' H' S' i1 ja r => ?_⟩
              obtain ⟨R2, i2, S2, hd⟩ := r.share S'
              cases hd with
              | tup ha hb =>
                cases hb with
                | cons hx hb =>
                  cases hb with
                  | cons hy hb =>
                    cases hb
                    refine ⟨_, _, rfl, .inl (.inl (ex_rq S2.rh ha)), rfl, _, _, rfl, ?_⟩
                    obtain ⟨a, vs, ds1, ed, g1, g2, g3, g4, g5⟩ := S2.own i _ h3
                    cases ed
                    refine ⟨_, g1, B, H0, R0, R2, _, _, _, S2, h2, fun u R3 H3 S3 i3 j3 t3 => ?_⟩
                    have eu := top_int t3
                    subst eu
                    obtain ⟨a', vs', ds1, ed', f1', f2', f3, f4, f5⟩ := S3.own i _ h3
                    rw [g1] at f1'
                    cases f1'
                    cases ed'
                    refine ⟨a, vs', k1, j1, rfl, rfl, f2', by rw [dpa_len f5]; exact h4, ?_⟩
                    have S4 := S3.writeO h3 g1 (dpa_set (dp_mono i3 hx) j1 f5)
                    have hl := (List.getElem?_eq_some_iff.mp h3).1
                    have h3' := List.getElem?_set_self (a := (some (PyData.list (ds.set j1 x), true))) hl
                    refine ⟨_, _, rfl, _, g1, B, H0, R0, R3, _, _, _, S4, h5, fun u R5 H5 S5 i5 j5 t5 => ?_⟩
                    have eu := top_int t5
                    subst eu
                    obtain ⟨a2, vs2, ds2, ed2, p1, p2, p3, p4, p5⟩ := S5.own i _ h3'
                    rw [g1] at p1
                    cases p1
                    cases ed2
                    refine ⟨a, vs2, k2, j2, rfl, rfl, p2, by rw [dpa_len p5, List.length_set]; exact h6, rfl, ?_⟩
                    exact q σ R5 _ (S5.writeO h3' g1 (dpa_set (dp_mono (i3.trans i5) hy) j2 p5)) (((i1.trans i2).trans i3).trans i5)
            · exact q.elim
          · exact q.elim
        · exact q.elim
      · exact q.elim
    · exact q.elim
  · exact q.elim
theorem qs_swap {tg : Expr} {i : Nat} (h : PS X (.Assign [tg] e pos) (tAsg (tE fe) (gTup X.K 2 (gCons (L2.gSub (tVar i) (tW f1) rSetL) (gCons (L2.gSub (tVar i) (tW f2) rSetL) gNil))))) (w1 : WSame f1) (w2 : WSame f2) : PS X (.Assign [tg] e pos) (tS (sSwap i fe f1 f2)) := PS.imp h fun D σ H q => swap_ok w1 w2 q
end
end Fw
namespace Fw
open PySem PySem.Spec PyProof.Rows L2 Evl
/-! a look at all names, nobody's list kept back -/
def erE (env : En) : En := env.map fun o => o.map fun r => (r.1, false)
def NoTok : En → Prop
  | [] => True
  | none :: r => NoTok r
  | some (d, _) :: r => tokOf d = none ∧ NoTok r
theorem NoTok.all : ∀ {env : En}, NoTok env → ∀ r ∈ env, ∀ d b, r = some (d, b) → tokOf d = none
  | [], _, r, hr, _, _, _ => absurd hr List.not_mem_nil
  | none :: e, h, r, hr, d, b, q => by
    rcases List.mem_cons.mp hr with z | z
    · rw [z] at q
      cases q
    · exact NoTok.all (env := e) h r z d b q
  | some (d', b') :: e, h, r, hr, d, b, q => by
    rcases List.mem_cons.mp hr with z | z
    · rw [z] at q
      cases q
      exact h.1
    · exact NoTok.all (env := e) h.2 r z d b q
theorem SRel.peek {B H0 R0 R H : Hp} {σ : L2.St} {env : En} (S : SRel B H0 R0 R H σ env) (hn : NoTok env) : SRel nil nil nil H H σ (erE env) := by
  have hn := hn.all
  refine adhoc (by unfold erE; rw [List.length_map]; exact S.len) fun i d b q => ?_
  unfold erE at q
  rw [List.getElem?_map] at q
  cases hq : env[i]? with
  | none => rw [hq] at q; cases q
  | some o =>
    rw [hq] at q
    cases o with
    | none => cases q
    | some r =>
      obtain ⟨d', b'⟩ := r
      cases q
      refine ⟨rfl, ?_⟩
      cases b' with
      | true =>
        obtain ⟨a, vs, ds, rfl, h1, h2, _, _, h5⟩ := S.own i _ hq
        exact ⟨_, h1, .lst h2 (dpa_mono S.rh h5)⟩
      | false =>
        obtain ⟨v, h1, h2⟩ := S.slot i _ hq
        exact ⟨v, h1, dp_mono S.rh (h2.dq (hn _ (List.mem_of_getElem? hq) _ _ rfl))⟩
theorem SRel.up {H H' : Hp} {σ : L2.St} {env : En} (S : SRel nil nil nil H H σ env) (e : Ex H H') : SRel nil nil nil H' H' σ env := by
  refine ⟨Ex.refl _, fun b o q => (nomatch (show none = some o from q)), fun b o q => (nomatch (show none = some o from q)), S.bb, fun _ _ _ _ => rfl, fun i d q => ?_, fun i d q => ?_, S.dis, S.len⟩
  · obtain ⟨v, h1, h2⟩ := S.slot i d q
    exact ⟨v, h1, h2.mono e⟩
  · obtain ⟨a, vs, ds, _, _, h3, h4, _⟩ := S.own i d q
    rw [h3] at h4
    cases h4
/-- a test that comes out false, asked of names as they stand -/
theorem peek_if {c : TF} {tr : TS} {D : Ends} {H : Hp} {σ : L2.St} {env e' : En} (S : SRel nil nil nil H H σ env) (hc : c env = some (false, e')) (k : ∀ H', Ex H H' → D.nx σ H') : tIfS (tT c) tr tNext D σ H :=
  ⟨nil, nil, nil, H, env, false, e', S, hc, fun R' H5 S5 _ e5 => iteF (k H5 e5)⟩
theorem noL_tup2 (a b : Int) : noL (.tuple [.int a, .int b]) = true := rfl
/-- .. told to a name whose lists nobody had before -/
theorem call_new {R H : Hp} {ms : List Bool} {vs : List V} {ds : List PyData} {g : List PyData → Option (PyData × Bool)} {rows : List (List Int)} {Q : VK} {E : XK} (e : Ex R H) (ha : ArgAll (tupsOf R) H ms vs ds) (hg : g ds = some (.list (rows.map fun l => .list (l.map .int)), true)) (hl : ∀ l ∈ rows, l.length < 900)
    (k : ∀ a ws Hn, Ex H Hn → Hn a = some (.lst ws) → H a = none → ws.length = rows.length → (∀ v ∈ ws, NewInts H Hn v) → Dq Hn (.ref a) (.list (rows.map fun l => .list (l.map .int))) → Q (.ref a) Hn) : spD g ms vs H Q E := by
  refine ⟨tupsOf R, ds, _, true, (tups_ex R).trans e, ha, hg, fun v Rn Hn e1 e2 e3 hnew hres => ?_⟩
  obtain ⟨a, ws, es, rfl, hds, hHa, hRa, hHa0, hall⟩ := hres
  cases hds
  refine k a ws Hn e2 hHa hHa0 (by rw [dpa_len hall, List.length_map]) (fun v hv => ?_) (.lst hHa (dpa_mono e3 hall))
  obtain ⟨j, hj, rfl⟩ := List.mem_iff_getElem.mp hv
  obtain ⟨d, hd1, hd2⟩ := dpa_get' hall (List.getElem?_eq_getElem hj)
  rw [List.getElem?_map] at hd1
  cases hp : rows[j]? with
  | none => rw [hp] at hd1; cases hd1
  | some l =>
    rw [hp] at hd1
    cases hd1
    exact new_of (R := R) e3 hnew (hl l (List.mem_of_getElem? hp)) e1 hd2
section
variable {X : Cx}
/-- for x in xs: x.append(z), over lists of whole numbers that stood nowhere before -/
theorem priv_for0 {K : PySem.W.Frag} {l i : Nat} {z : Int} {D : Ends} {σ : L2.St} {H1 H : Hp} {a : Addr} {vs : List V} (hli : l ≠ i) (hs : i < σ.length) (hl : σ[l]? = some (some (.ref a))) (e : Ex H1 H) (ha : H a = some (.lst vs))
    (hvl : vs.length ≤ 90) (hna : ∀ ns : List Int, ns ≠ [] → vs ≠ ns.map V.int) (hin : ∀ v ∈ vs, NewInts H1 H v)
    (hD : ∀ σ2 H2, (∀ j, j ∉ [i] → σ2[j]? = σ[j]?) → σ2.length = σ.length → Ex H1 H2 → H2 a = some (.lst vs) → D.nx σ2 H2) :
    tFor (iList K (tVar l)) (gName i) (tDrop (tBM K "list" rAppend (tVar i) (tCons (tC (.int z)) tNil))) D σ H := by
  refine ⟨_, hl, a, rfl, ⟨vs, .inl (.inl ha)⟩, ?_⟩
  refine for_list (xs := vs) (fun k σ2 H2 => (∀ j, j ∉ [i] → σ2[j]? = σ[j]?) ∧ σ2.length = σ.length ∧ Ex H1 H2 ∧ H2 a = some (.lst vs) ∧ ∀ j v, vs[j]? = some v → ∃ (b : Addr) (ns : List Int), v = V.ref b ∧ H2 b = some (.lst (ns.map V.int)) ∧ ns.length < 900 + k ∧ H1 b = none)
    ⟨fun _ _ => rfl, rfl, e, ha, fun j v hj => (show NewInts H1 H v from hin v (List.mem_of_getElem? hj))⟩ (fun k σ2 H2 _ hp => .inl (.inl hp.2.2.2.1)) (fun k x σ2 H2 hx hp => ?_) fun σ2 H2 hp => hD σ2 H2 hp.1 hp.2.1 hp.2.2.1 hp.2.2.2.1
  obtain ⟨h1, h2, h3, h4, h5⟩ := hp
  obtain ⟨b, ns, rfl, hb, hn, hb1⟩ := h5 k x hx
  have hk : k < vs.length := (List.getElem?_eq_some_iff.mp hx).1
  have hi2 : i < σ2.length := by rw [h2]; exact hs
  have hget : (σ2.set i (some (V.ref b)))[i]? = some (some (V.ref b)) := List.getElem?_set_self hi2
  refine ⟨_, hget, .inl ⟨rfl, _, .inl (.inl hb)⟩, b, ns.map V.int, .int z, rfl, rfl, hb, ?_, fun j hj => ?_, ?_, Ex.mut h3 hb1, ?_, fun j v hj => ?_⟩
  · rw [List.length_map]
    exact Nat.lt_of_lt_of_le (show ns.length < 1000 by omega) (by decide)
  · have : j ≠ i := fun z => hj (by rw [z]; exact List.mem_singleton.mpr rfl)
    rw [List.getElem?_set_ne (Ne.symm this)]
    exact h1 j hj
  · rw [List.length_set]
    exact h2
  · have hab : a ≠ b := fun z => by
      subst z
      rw [h4] at hb
      have hq := HO.lst.inj (Option.some.inj hb)
      refine hna ns (fun zz => ?_) hq
      rw [hq, zz] at hk
      exact absurd hk (Nat.not_lt_zero _)
    rw [upd_ne hab]
    exact h4
  · obtain ⟨b', ns', rfl, q1, q2, q3⟩ := h5 j v hj
    by_cases hbb : b' = b
    · subst hbb
      refine ⟨b', ns ++ [z], rfl, ?_, ?_, hb1⟩
      · rw [upd_same, List.map_append]
        rfl
      · rw [List.length_append]
        exact Nat.succ_lt_succ hn
    · refine ⟨b', ns', rfl, ?_, by omega, q3⟩
      rw [upd_ne hbb]
      exact q1
end
/-- lists of lists are no lists of numbers -/
theorem new_noints {H1 H : Hp} {vs : List V} (hin : ∀ v ∈ vs, NewInts H1 H v) (ns : List Int) (hne : vs ≠ []) : vs ≠ ns.map V.int := fun e => by
  cases vs with
  | nil => exact hne rfl
  | cons v r =>
    obtain ⟨b, _, hb, _⟩ := hin v List.mem_cons_self
    cases ns with
    | nil => cases e
    | cons i t =>
      rw [List.map_cons] at e
      have := (List.cons.inj e).1
      rw [hb] at this
      cases this
end Fw
namespace Fw
open PySem PySem.Spec PyProof.Rows L2 Evl PySem.W
section
variable {X : Cx}
/-! min and max of a pair of whole numbers -/
def rMinT (K : PySem.W.Frag) : List V → Hp → VK → Prop := fun vs H Q => ∃ (a : Addr) (i j : Int), vs = [V.ref a] ∧ SqT K H a [V.int i, V.int j] ∧ Q (.int (if j < i then j else i)) H
def rMaxT (K : PySem.W.Frag) : List V → Hp → VK → Prop := fun vs H Q => ∃ (a : Addr) (i j : Int), vs = [V.ref a] ∧ SqT K H a [V.int i, V.int j] ∧ Q (.int (if j > i then j else i)) H
theorem alike_ints (i j : Int) : AlikeAll [.int i, .int j] := by
  constructor
  · intro x hx y hy
    simp only [List.mem_cons, List.not_mem_nil, or_false] at hx hy
    rcases hx with rfl | rfl <;> rcases hy with rfl | rfl <;> rfl
  · intro x hx
    simp only [List.mem_cons, List.not_mem_nil, or_false] at hx
    rcases hx with rfl | rfl <;> (intro z; cases z)
theorem cr_minT (hc : X.calm = true) (hu : X.A.units + 64 < cLine) : CallR X (.builtin "min") (rMinT X.K) := by
  intro pins s σ H vs us Q I r h
  obtain ⟨a, i, j, rfl, hs, q⟩ := h
  obtain ⟨its, rv, hl, _⟩ := I.tuple hs
  rw [Vals.ref1 r]
  obtain ⟨as, ra⟩ := Dp.readsAll I [.int i, .int j] _ its (.cons (.int i) (.cons (.int j) .nil)) rv
  refine min_tuple_data (I.ok.hd hc) hl ra (alike_ints i j) (by
    have : PyData.depthAll [.int i, .int j] = 0 := rfl
    omega) fun n v h' tk bs _ hr hk => ?_
  rw [show minD (.int i) [.int j] = .int ([j].foldl min i) from minD_ints i [j]] at hr
  cases hr with
  | int =>
    refine ⟨.int _, H, I.kept hk, ⟨_, rfl⟩, ?_⟩
    have e : [j].foldl min i = if j < i then j else i := by
      show min i j = _
      rw [Int.min_def]
      split <;> split <;> omega
    rw [e]
    exact q
theorem cr_maxT (hc : X.calm = true) (hu : X.A.units + 64 < cLine) : CallR X (.builtin "max") (rMaxT X.K) := by
  intro pins s σ H vs us Q I r h
  obtain ⟨a, i, j, rfl, hs, q⟩ := h
  obtain ⟨its, rv, hl, _⟩ := I.tuple hs
  rw [Vals.ref1 r]
  obtain ⟨as, ra⟩ := Dp.readsAll I [.int i, .int j] _ its (.cons (.int i) (.cons (.int j) .nil)) rv
  refine max_tuple_data (I.ok.hd hc) hl ra (alike_ints i j) (by
    have : PyData.depthAll [.int i, .int j] = 0 := rfl
    omega) fun n v h' tk bs _ hr hk => ?_
  rw [show maxD (.int i) [.int j] = .int ([j].foldl max i) from maxD_ints i [j]] at hr
  cases hr with
  | int =>
    refine ⟨.int _, H, I.kept hk, ⟨_, rfl⟩, ?_⟩
    have e : [j].foldl max i = if j > i then j else i := by
      show max i j = _
      rw [Int.max_def]
      split <;> split <;> omega
    rw [e]
    exact q
def gMinT : List PyData → Option (PyData × Bool)
  | [.tuple [.int i, .int j]] => some (.int (if j < i then j else i), false)
  | _ => none
def gMaxT : List PyData → Option (PyData × Bool)
  | [.tuple [.int i, .int j]] => some (.int (if j > i then j else i), false)
  | _ => none
theorem dpa_pair {R : Hp} {vs : List V} {i j : Int} (h : DqAll R vs [.int i, .int j]) : vs = [V.int i, V.int j] := dpa_ints (ns := [i, j]) h
theorem gMinT_ok {K : PySem.W.Frag} : CallD (rMinT K) gMinT := by
  intro R H vs ds d fr Q e t hg k
  unfold gMinT at hg
  split at hg
  · cases hg
    obtain ⟨v, rfl, t1⟩ := tops1 t
    obtain ⟨a, ws, rfl, h1, h2⟩ := top_tup e t1
    have ew := dpa_pair h2
    subst ew
    exact ⟨a, _, _, rfl, .inl (.inl (ex_rq e h1)), k.now e (.int _)⟩
  · cases hg
theorem gMaxT_ok {K : PySem.W.Frag} : CallD (rMaxT K) gMaxT := by
  intro R H vs ds d fr Q e t hg k
  unfold gMaxT at hg
  split at hg
  · cases hg
    obtain ⟨v, rfl, t1⟩ := tops1 t
    obtain ⟨a, ws, rfl, h1, h2⟩ := top_tup e t1
    have ew := dpa_pair h2
    subst ew
    exact ⟨a, _, _, rfl, .inl (.inl (ex_rq e h1)), k.now e (.int _)⟩
  · cases hg
/-! xs.index(i), whole numbers or truths -/
def flatOf : PyData → Bool
  | .int _ => true
  | .bool _ => true
  | _ => false
def eqF : PyData → PyData → Bool
  | .int i, .int j => i == j
  | .bool i, .bool j => i == j
  | .bool i, .int j => (if i then 1 else 0) == j
  | .int i, .bool j => i == (if j then 1 else 0)
  | _, _ => false
def gIndex (x y : PyData) : Option (PyData × Bool) := match x with
  | .list ds => if flatOf y && ds.all flatOf then (ds.findIdx? fun d => eqF d y).map fun (j : Nat) => (.int (j : Int), false) else none
  | _ => none
theorem flat_V {R : Hp} {v : V} {d : PyData} (h : Dq R v d) (f : flatOf d = true) : flatV v = true := by
  cases h <;> first | rfl | (exact absurd f Bool.false_ne_true)
theorem eq_V {R : Hp} {v w : V} {d e : PyData} (h : Dq R v d) (h2 : Dq R w e) (f : flatOf d = true) (f2 : flatOf e = true) : eqV v w = eqF d e := by
  cases h <;> cases h2 <;> first | rfl | (exact absurd f2 Bool.false_ne_true) | (exact absurd f Bool.false_ne_true)
theorem flats_V {R : Hp} : ∀ {ds : List PyData} {vs : List V}, DqAll R vs ds → ds.all flatOf = true → vs.all flatV = true
  | [], _, h, _ => by cases h; rfl
  | d :: ds, _, h, f => by
    cases h with
    | cons a b =>
      rw [List.all_cons, Bool.and_eq_true] at f ⊢
      exact ⟨flat_V a f.1, flats_V b f.2⟩
end
section
variable {X : Cx} {a b : Expr} {pos apos : Pos} {fa fb : WF}
theorem qe_index (ha : PE X a (tW fa)) (hb : PE X b (tW fb)) (hbase : attributeBase a "index" X.env (eval a X.env) = eval a X.env := by rfl)
    (hfew : ((backTo pos (starEach [b] X.env)).all (fun x => !x.1) && (backToKw pos (keywordEach [] X.env)).all (fun x => x.1.isSome)
      && decide (([b] : List Expr).length + ([] : List Keyword).length + (if ([] : List Keyword).isEmpty then 0 else 1) < 30)) = true := by rfl)
    (hline : (apos.endLine == pos.line) = true := by rfl) (hs : starEach [b] X.env = (false, eval b X.env) :: starEach [] X.env := by rfl) (hplain : (backTo pos (starEach [] X.env)).any (·.1) = false := by rfl) :
    PE X (.Call (.Attribute a "index" apos) [b] [] pos) (tE (eBin gIndex fa fb)) :=
  PE.imp (pe_bm PySem.F.plainAttrs_list PySem.F.slot_list_index PySem.F.type_list_index mt_index ha (pa_cons hb pa_nil hs) hbase hfew hline hs hplain) fun σ H Q q => by
    obtain ⟨B, H0, R0, R, env, d, fr, env', S, hf, k⟩ := q
    unfold eBin at hf
    split at hf
    · cases hf
    · rename_i x e1 g1
      split at hf
      · cases hf
      · rename_i y e2 g2
        split at hf
        · cases hf
        · rename_i d' fr' g3
          cases hf
          unfold gIndex at g3
          split at g3
          · rename_i ds
            split at g3
            · rename_i hfl
              rw [Bool.and_eq_true] at hfl
              cases hj : ds.findIdx? fun d => eqF d y with
              | none => rw [hj] at g3; cases g3
              | some j =>
                rw [hj] at g3
                cases g3
                refine ⟨B, H0, R0, R, env, .list ds, e1, S, g1, fun u R1 H1 S1 i1 j1 t1 => ?_⟩
                obtain ⟨p, ws, rfl, h1, h2⟩ := top_list t1
                refine ⟨.inl ⟨rfl, ws, .inl (.inl h1)⟩, B, H0, R0, R1, e1, y, _, S1, g2, fun w R2 H2 S2 i2 j2 t2 => ?_⟩
                have hw : Dq H2 w y := top_dp S2.rh t2
                have h2' : DqAll H2 ws ds := dpa_mono (S1.rh.trans j2) h2
                rw [List.findIdx?_eq_some_iff_getElem] at hj
                obtain ⟨hjl, hje, hjn⟩ := hj
                obtain ⟨z, hz1, hz2⟩ := dpa_get h2' (List.getElem?_eq_getElem hjl)
                have fl : ∀ d ∈ ds, flatOf d = true := List.all_eq_true.mp hfl.2
                refine ⟨p, ws, w, j, z, rfl, rfl, .inl (.inl (j2 _ _ h1)), flat_V hw hfl.1, flats_V h2' hfl.2, hz1, ?_, fun m z' hm hz' => ?_, ?_⟩
                · rw [eq_V hz2 hw (fl _ (List.getElem_mem hjl)) hfl.1]
                  exact hje
                · obtain ⟨dm, hd1, hd2⟩ := dpa_get' h2' hz'
                  obtain ⟨hml, rfl⟩ := List.getElem?_eq_some_iff.mp hd1
                  rw [eq_V hd2 hw (fl _ (List.getElem_mem hml)) hfl.1]
                  have := hjn m hm
                  simpa using this
                · exact k _ R2 H2 S2 (i1.trans i2) (j1.trans j2) (.int _)
            · cases g3
          · cases g3
/-! xs[::-1] -/
def eRev (f : WF) : EF := fun env => match f env with
  | some (.list ds, e1) => some (.list ds.reverse, true, e1)
  | _ => none
theorem dpa_rev {H : Hp} : ∀ {ds : List PyData} {vs : List V}, DqAll H vs ds → DqAll H vs.reverse ds.reverse
  | [], _, h => by cases h; exact .nil
  | _ :: _, _, h => by
    cases h with
    | cons a b =>
      rw [List.reverse_cons, List.reverse_cons]
      exact dpa_app (dpa_rev b) (.cons a .nil)
theorem qe_rev {k : Nat} {p1 p2 p3 : Pos} (h : PE X a (tW fa)) : PE X (.Subscript a (.Slice none none (some (.UnaryOp .USub (.Constant (.int 1) k p1) p2)) p3) pos) (tE (eRev fa)) :=
  PE.imp (pe_revL h) fun σ H Q q => by
    obtain ⟨B, H0, R0, R, env, d, fr, env', S, hf, k⟩ := q
    unfold eRev at hf
    split at hf
    · rename_i ds e1 g1
      cases hf
      refine ⟨B, H0, R0, R, env, .list ds, _, S, g1, fun u R1 H1 S1 i1 j1 t1 => ?_⟩
      obtain ⟨p, ws, rfl, h1, h2⟩ := top_list t1
      exact ⟨p, ws, rfl, .inl (.inl h1), fun q hq => Cont.nowL S1.rh (S1.cont fun v R' H' S' e1 e2 r => k v R' H' S' (i1.trans e1) (j1.trans e2) r) hq (dpa_rev h2)⟩
    · cases hf
theorem v_rev {f : WF} {env e1 : En} {ds : List PyData} (h : f env = some (.list ds, e1)) : eRev f env = some (.list ds.reverse, true, e1) := by
  unfold eRev
  rw [h]
/-! int(b) -/
def gInt : List PyData → Option (PyData × Bool)
  | [.int i] => some (.int i, false)
  | [.bool b] => some (.int (if b then 1 else 0), false)
  | _ => none
theorem gInt_ok : CallD (fun xs H Q => (∃ i, xs = [.int i] ∧ Q (.int i) H) ∨ ∃ k, xs = [.bl k] ∧ Q (.int (if k then 1 else 0)) H) gInt := by
  intro R H vs ds d fr Q e t hg k
  unfold gInt at hg
  split at hg
  · cases hg
    obtain ⟨v, rfl, t1⟩ := tops1 t
    have e1 := top_int t1
    subst e1
    exact .inl ⟨_, rfl, k.now e (.int _)⟩
  · cases hg
    obtain ⟨v, rfl, t1⟩ := tops1 t
    have e1 := top_bl t1
    subst e1
    exact .inr ⟨_, rfl, k.now e (.int _)⟩
  · cases hg
/-! zip over two lists that are only read (in a comprehension) -/
def zipD (xs ys : List PyData) : List PyData := List.zipWith (fun x y => .tuple [x, y]) xs ys
theorem zipD_len (xs ys : List PyData) : (zipD xs ys).length = min xs.length ys.length := List.length_zipWith
theorem zipD_get {xs ys : List PyData} {i : Nat} {d : PyData} (h : (zipD xs ys)[i]? = some d) : ∃ x y, xs[i]? = some x ∧ ys[i]? = some y ∧ d = .tuple [x, y] := by
  unfold zipD at h
  rw [List.getElem?_zipWith] at h
  cases hx : xs[i]? with
  | none => rw [hx] at h; cases h
  | some x =>
    cases hy : ys[i]? with
    | none => rw [hx, hy] at h; cases h
    | some y =>
      rw [hx, hy] at h
      cases h
      exact ⟨x, y, rfl, rfl, rfl⟩
theorem wk_zip {K : PySem.W.Frag} {B R : Hp} {p q : Addr} {vs ws : List V} {ds es : List PyData} (hp : ∀ R' H', Ex B H' → Ex R R' → Ex R' H' → SqL K H' p vs) (hq : ∀ R' H', Ex B H' → Ex R R' → Ex R' H' → SqL K H' q ws) (hd : DqAll R vs ds) (he : DqAll R ws es) : Wk B R (Itz K p q) (zipD ds es) where
  go := fun i R' H' e e1 e2 hi => by
    rw [zipD_len] at hi
    have l1 := dpa_len hd
    have l2 := dpa_len he
    have h1 : i < vs.length := by omega
    have h2 : i < ws.length := by omega
    exact ⟨vs, ws, vs[i], ws[i], hp R' H' e e1 e2, hq R' H' e e1 e2, List.getElem?_eq_getElem h1, List.getElem?_eq_getElem h2⟩
  yld := fun i R' H' x H'' d e e1 e2 hi hy => by
    obtain ⟨T, u, w, rfl, hT, rfl, hu, hw⟩ := hy
    obtain ⟨dx, dy, hx1, hy1, rfl⟩ := zipD_get hi
    obtain ⟨v1, g1, g2⟩ := dpa_get hd hx1
    obtain ⟨v2, g3, g4⟩ := dpa_get he hy1
    have eu := hu vs (hp R' H' e e1 e2)
    have ew := hw ws (hq R' H' e e1 e2)
    rw [g1] at eu
    rw [g3] at ew
    cases eu
    cases ew
    have hr : R' T = none := fresh_back e2 hT
    refine ⟨upd R' T (.tup [u, w]), Ex.new hr, Ex.new hT, fun b o z => ?_, fun b o z n => ?_, .tup upd_same (.cons (dp_mono (e1.trans (Ex.new hr)) g2) (.cons (dp_mono (e1.trans (Ex.new hr)) g4) .nil))⟩
    · by_cases hb : b = T
      · subst hb
        rw [upd_same] at z ⊢
        exact z
      · rw [upd_ne hb] at z ⊢
        exact e2 b o z
    · by_cases hb : b = T
      · subst hb
        exact hT
      · rw [upd_ne hb, n] at z
        cases z
  stop := fun i R' H' e e1 e2 hi => by
    rw [zipD_len] at hi
    have l1 := dpa_len hd
    have l2 := dpa_len he
    exact ⟨vs, ws, hp R' H' e e1 e2, hq R' H' e e1 e2, by omega⟩
def iZip2 (f : AF) : AF := fun env => match f env with
  | some ([.list ds, .list es], e1) => some (zipD ds es, e1)
  | _ => none
theorem qi_zipb {elts : List Expr} {kk : Nat} {tpos p : Pos} {e e2 : Expr} {f : AF} (hg : Gl X "zip") (hm : X.mg "zip" = none) (ha : PA X [e, e2] (tB f))
    (hs : starEach [e, e2] X.env = (false, eval e X.env) :: starEach [e2] X.env := by rfl) (hpl : (backTo pos (starEach [e2] X.env)).any (·.1) = false := by rfl) :
    PI X (.Tuple elts kk tpos) (.Call (.Name "zip" p) [e, e2] [] pos) (tIb (iZip2 f)) := PI.imp (pi_zip hg hm ha hs hpl) fun σ H Q ⟨B, H0, R0, R, env, xs, e1, S, hf, k⟩ => by
  unfold iZip2 at hf
  split at hf
  · rename_i ds es e3 g1
    cases hf
    refine ⟨B, H0, R0, R, env, _, _, S, g1, fun vs R' H' S' i j r => ?_⟩
    obtain ⟨v, w, rfl, t1, t2⟩ := tops2 r
    obtain ⟨a1, xs, rfl, p1, p2⟩ := top_list t1
    obtain ⟨b1, ys, rfl, p3, p4⟩ := top_list t2
    exact ⟨a1, b1, xs, ys, rfl, .inl (.inl p1), .inl (.inl p3), k _ R' H' S' i j (wk_zip (fun _ H'' e _ _ => .inl (.inl (e _ _ p1))) (fun _ H'' e _ _ => .inl (.inl (e _ _ p3))) p2 p4)⟩
  · cases hf
/-- .. over two lists that are shared (in a loop) -/
theorem qi_zip {elts : List Expr} {kk : Nat} {tpos p : Pos} {e e2 : Expr} {f : AF} (hg : Gl X "zip") (hm : X.mg "zip" = none) (ha : PA X [e, e2] (tA f))
    (hs : starEach [e, e2] X.env = (false, eval e X.env) :: starEach [e2] X.env := by rfl) (hpl : (backTo pos (starEach [e2] X.env)).any (·.1) = false := by rfl) :
    PI X (.Tuple elts kk tpos) (.Call (.Name "zip" p) [e, e2] [] pos) (tI (iZip2 f)) := PI.imp (pi_zip hg hm ha hs hpl) fun σ H Q ⟨B, H0, R0, R, env, xs, e1, S, hf, k⟩ => by
  unfold iZip2 at hf
  split at hf
  · rename_i ds es e3 g1
    cases hf
    refine ⟨B, H0, R0, R, env, _, _, S, g1, fun vs R' H' S' i j r => ?_⟩
    cases r with
    | cons r1 r =>
      cases r with
      | cons r2 r =>
        cases r
        cases r1 with
        | @lst a1 xs _ p1 p2 =>
          cases r2 with
          | @lst b1 ys _ p3 p4 =>
            exact ⟨a1, b1, xs, ys, rfl, .inl (.inl (S'.rh _ _ p1)), .inl (.inl (S'.rh _ _ p3)), k _ R' H' S' i j (wk_zip (fun R2 H2 _ e1 e2 => .inl (.inl ((e1.trans e2) _ _ p1))) (fun R2 H2 _ e1 e2 => .inl (.inl ((e1.trans e2) _ _ p3))) p2 p4)⟩
  · cases hf
end
theorem intsD0 (n : Nat) : intsD 0 n = (List.range n).map fun (i : Nat) => PyData.int (i : Int) := by
  unfold intsD
  exact List.map_congr_left fun i _ => by rw [Int.zero_add]
/-- a loop over 0, 1, .. -/
theorem loop_r0 {env : En} {g : GF} {fb : SF} {n : Nat} (P : Nat → En → Prop) (h0 : P 0 env) (h : ∀ (k : Nat), k < n → ∀ env, P k env → ∃ e1 e2, g (.int (k : Int)) env = some e1 ∧ (fb e1 = .nx e2 ∨ fb e1 = .ct e2) ∧ P (k + 1) e2) : ∃ e, loopS g fb (intsD 0 n) env = .nx e ∧ P n e :=
  loop_rg P h0 fun k hk env hp => by
    rw [Int.zero_add]
    exact h k hk env hp
theorem v_lcR0 {env e1 e2 : En} {c : TF} {f : EF} {ds : List PyData} {as : AF} {g : GF} {vs : List Nat} {m : Nat} (h : as env = some ([.int (m : Int)], e1)) (hm : m ≤ 1000) (h2 : lcLoop g c f vs ((List.range m).map fun (i : Nat) => PyData.int (i : Int)) (wipeE e1 vs) = some (ds, e2)) : eLc (iR1 as) g c f vs env = some (.list ds, true, e2) := by
  refine v_lcR h hm ?_
  have : ((List.range m).map fun (i : Nat) => PyData.int (0 + (i : Int))) = (List.range m).map fun (i : Nat) => PyData.int (i : Int) := List.map_congr_left fun i _ => by rw [Int.zero_add]
  rw [this]
  exact h2
/-- a comprehension that keeps every item -/
theorem lc_all {c : TF} {f : EF} {g : GF} {vs : List Nat} {e0 : En} {α : Type} (enc : α → PyData) (val : α → PyData) (l : List α)
    (h : ∀ a ∈ l, ∃ e1 fr, g (enc a) e0 = some e1 ∧ c e1 = some (true, e1) ∧ wipeE e1 vs = e0 ∧ f e1 = some (val a, fr, e1)) : lcLoop g c f vs (l.map enc) e0 = some (l.map val, e0) := by
  have := lc_map (g := g) (c := c) (f := f) (vs := vs) (e0 := e0) enc val (fun _ => true) l fun a ha => by
    obtain ⟨e1, fr, h1, h2, h3, h4⟩ := h a ha
    exact ⟨e1, h1, h2, h3, fun _ => ⟨fr, h4⟩⟩
  rw [List.filter_eq_self.mpr fun _ _ => rfl] at this
  exact this
theorem le1000 {n : Nat} (h : Nat.ble n 1000 = true) : n ≤ 1000 := Nat.le_of_ble_eq_true h
end Fw
namespace Fw
open PySem PySem.Spec PyProof.Rows L2 Evl
/-! what may be raised: a class of the program, by its name -/
inductive Rs where
  | val (d : PyData) (fr : Bool)
  | exc (c : Str)
abbrev GXn := List PyData → Option Rs
abbrev EFX := En → Option (Rs × En)
inductive OutX where
  | ok (o : Out)
  | ex (c : Str)
abbrev SX := En → OutX
def spX (mg : Str → Option Value) (g : GXn) (ms : List Bool) : Sp := fun vs H Q E => ∃ R ds, Ex R H ∧ ArgAll R H ms vs ds ∧ match g ds with
  | some (.val d fr) => Cont R H d fr Q
  | some (.exc c) => ∀ H' v, Ex H H' → mg c = some v → E v none H'
  | none => False
structure HasX (P : Program) (w : World) (K : PySem.W.Frag) (mg : Str → Option Value) (base : Heap) (k : Nat) (x : Str) (g : GXn) (ms : List Bool) : Prop where
  ex : ∃ (f : Addr) (fd : FuncData) (ps : List Str), mg x = some (.ref f) ∧ PySem.W.keepIn K (.ref f) = true ∧ Binds K fd ps [] ∧ FnOk P w K mg base (L2N.CX P w) k f fd ps (spX mg g ms)
def tEX (mg : Str → Option Value) (E : L2.St → XK) (f : EFX) : TE := fun σ H Q => ∃ B H0 R0 R env, SRel B H0 R0 R H σ env ∧ match f env with
  | some (.val d fr, env') => ∀ v R' H', SRel B H0 R0 R' H' σ env' → Ex R R' → Ex H H' → Res H0 R' H' σ env' v d fr → Q v H'
  | some (.exc c, _) => ∀ H' v, Ex H H' → mg c = some v → E σ v none H'
  | none => False
def tX (mg : Str → Option Value) (E : XK) (f : SX) : TS := fun D σ H => ∃ B H0 R0 R env, SRel B H0 R0 R H σ env ∧ match f env with
  | .ok o => Good B H0 R0 R D o
  | .ex c => ∀ H' v, Ex H0 H' → mg c = some v → E v none H'
def xP (f : SF) : SX := fun env => .ok (f env)
def xSeq (f g : SX) : SX := fun env => match f env with
  | .ok (.nx e1) => g e1
  | o => o
def xIf (c : TF) (f g : SX) : SX := fun env => match c env with
  | none => .ok .bad
  | some (true, e1) => f e1
  | some (false, e1) => g e1
def xRaise (c : Str) : SX := fun _ => .ex c
def xDrop (f : EFX) : SX := fun env => match f env with
  | some (.val _ _, e1) => .ok (.nx e1)
  | some (.exc c, _) => .ex c
  | none => .ok .bad
def xSet (i : Nat) (f : EFX) : SX := fun env => match f env with
  | some (.val d fr, e1) => .ok (.nx (e1.set i (some (d, fr))))
  | some (.exc c, _) => .ex c
  | none => .ok .bad
def xRet (f : EFX) : SX := fun env => match f env with
  | some (.val d fr, _) => .ok (.rt d fr)
  | some (.exc c, _) => .ex c
  | none => .ok .bad
def eCallX (g : GXn) (fa : AF) : EFX := fun env => match fa env with
  | none => none
  | some (ds, e1) => match g ds with
    | none => none
    | some r => some (r, e1)
section
variable {X : Cx} {mg : Str → Option Value} {E : XK} {st : Stmt} {rest : List Stmt} {f g : SX} {sf : SF} {pos : Pos} {e : Expr} {fx : EFX} {ft : TF}
theorem ps_nox {t : TS} (h : PS X.nox st t) : PS X st t := ⟨fun pins s σ H D I hw => wpAny_mono (h.run pins s σ H D (I.wish _) hw) (fun _ _ q => q.unwish) fun _ _ z => False.elim z⟩
theorem xs_p (h : PS X.nox st (tS sf)) : PS X st (tX mg E (xP sf)) := PS.imp (ps_nox h) fun D σ H ⟨B, H0, R0, R, env, S, q⟩ => ⟨B, H0, R0, R, env, S, q⟩
theorem xs_ps (h : PSs X.nox rest (tS sf)) : PSs X rest (tX mg E (xP sf)) := PSs.imp h.nox fun D σ H ⟨B, H0, R0, R, env, S, q⟩ => ⟨B, H0, R0, R, env, S, q⟩
theorem xs_nil : PSs X [] (tX mg E (xP .nx)) := PSs.imp pss_nil fun D σ H ⟨B, H0, R0, R, env, S, h⟩ => h σ R H S (Ex.refl R)
theorem xs_one (h : PS X st (tX mg E f)) : PSs X [st] (tX mg E f) := pss_one h
theorem xs_cons (h1 : PS X st (tX mg E f)) (h2 : PSs X rest (tX mg E g)) : PSs X (st :: rest) (tX mg E (xSeq f g)) := PSs.imp (pss_cons h1 h2) fun D σ H ⟨B, H0, R0, R, env, S, h⟩ => by
  refine ⟨B, H0, R0, R, env, S, ?_⟩
  unfold xSeq at h
  cases hq : f env with
  | ex c => rw [hq] at h; exact h
  | ok o =>
    rw [hq] at h
    cases o with
    | nx e1 =>
      refine fun σ' R' H' S' i => ⟨B, H0, R0, R', e1, S', ?_⟩
      cases hg : g e1 with
      | ex c => simp only [hg] at h; exact h
      | ok o => simp only [hg] at h; exact Good.mono i h
    | bk e1 => exact h
    | ct e1 => exact h
    | rt d fr => exact h
    | bad => exact h
theorem xs_if {c : Expr} {x y : List Stmt} (hc : PT X c (tT ft)) (ha : PSs X x (tX mg E f)) (hb : PSs X y (tX mg E g)) : PS X (.If c x y pos) (tX mg E (xIf ft f g)) := PS.imp (ps_if hc ha hb) fun D σ H ⟨B, H0, R0, R, env, S, q⟩ => by
  unfold xIf at q
  cases hq : ft env with
  | none => rw [hq] at q; exact q.elim
  | some r =>
    obtain ⟨b, e1⟩ := r
    rw [hq] at q
    refine ⟨B, H0, R0, R, env, b, e1, S, hq, fun R1 H1 S1 i j => ?_⟩
    cases b with
    | true =>
      refine iteT ⟨B, H0, R0, R1, e1, S1, ?_⟩
      simp only at q
      cases hg : f e1 with
      | ex c => rw [hg] at q; exact q
      | ok o => rw [hg] at q; exact Good.mono i q
    | false =>
      refine iteF ⟨B, H0, R0, R1, e1, S1, ?_⟩
      simp only at q
      cases hg : g e1 with
      | ex c => rw [hg] at q; exact q
      | ok o => rw [hg] at q; exact Good.mono i q
theorem xs_drop (h : PE X e (tEX mg (fun _ => E) fx)) (hs : swapsWith e none pos.line X.env = pure false := by rfl) : PS X (.Expr e pos) (tX mg E (xDrop fx)) := PS.imp (ps_expr h hs) fun D σ H ⟨B, H0, R0, R, env, S, q⟩ => by
  refine ⟨B, H0, R0, R, env, S, ?_⟩
  unfold xDrop at q
  cases hq : fx env with
  | none => rw [hq] at q; exact q.elim
  | some r =>
    obtain ⟨r, e1⟩ := r
    rw [hq] at q
    cases r with
    | val d fr => exact fun v R' H' S' i j r => q σ R' H' S' i
    | exc c => exact fun H' v i hm => q H' v (S.h0.trans i) hm
theorem xs_set {tg : Expr} {i : Nat} (h : PS X (.Assign [tg] e pos) (tAsg (tEX mg (fun _ => E) fx) (gName i))) : PS X (.Assign [tg] e pos) (tX mg E (xSet i fx)) := PS.imp h fun D σ H ⟨B, H0, R0, R, env, S, q⟩ => by
  refine ⟨B, H0, R0, R, env, S, ?_⟩
  unfold xSet at q
  cases hq : fx env with
  | none => rw [hq] at q; exact q.elim
  | some r =>
    obtain ⟨r, e1⟩ := r
    rw [hq] at q
    cases r with
    | val d fr =>
      intro v R' H' S' j1 j2 r
      cases fr with
      | false => exact q _ R' H' (S'.setS r) j1
      | true =>
        obtain ⟨p, vs, ds, rfl, rfl, h1, h2, h3, h4, h5⟩ := r
        exact q _ R' H' (S'.setO h1 h2 h3 h4 h5) j1
    | exc c => exact fun H' v i hm => q H' v (S.h0.trans i) hm
theorem xs_ret (h : PE X e (tEX mg (fun _ => E) fx)) : PS X (.Return (some e) pos) (tX mg E (xRet fx)) := PS.imp (ps_ret h) fun D σ H ⟨B, H0, R0, R, env, S, q⟩ => by
  refine ⟨B, H0, R0, R, env, S, ?_⟩
  unfold xRet at q
  cases hq : fx env with
  | none => rw [hq] at q; exact q.elim
  | some r =>
    obtain ⟨r, e1⟩ := r
    rw [hq] at q
    cases r with
    | val d fr => exact fun v R' H' S' i j r => q v R' H' S'.r0 S'.h0 S'.rh S'.new (r.rres S')
    | exc c => exact fun H' v i hm => q H' v (S.h0.trans i) hm
end
/-- a class of the program that is raised -/
structure ExcR (K : PySem.W.Frag) (mg : Str → Option Value) (x : Str) (C : Addr) : Prop where
  gP : mg x = some (.ref C)
  xP : PySem.W.excIn K C [.type "ValueError", .type "Exception", .type "BaseException", .type "object"] "ValueError.__new__" = true
  kP : PySem.W.keepIn K (.ref C) = true
  bP : PySem.W.subIn K (.ref C) (.type "BaseException") = some true
  tP : PySem.W.typeIn K (.ref C) = some (.type "type")
section
variable {X : Cx} {E : XK}
theorem xs_raise {x m : Str} {j : Nat} {p p2 pos pos2 : Pos} {C : Addr} (T : ExcR X.K X.mg x C) (hc : X.calm = true) (tk : L2N.Takes X fun cls d _ H => E cls d H) (hg : Gl X x) (hdb : (x == ("__debug__" : Str)) = false := by decide) :
    PS X (.Raise (some (.Call (.Name x p) [.Constant (.str m) j p2] [] pos)) none pos2) (tX X.mg E (xRaise x)) :=
  PS.imp (L2N.ps_raise hc tk (L2N.pmk_own PySem.F.excBase_ValueError T.xP T.gP T.kP (raises_own T.bP T.tP) hg hdb)) fun D σ H ⟨B, H0, R0, R, env, S, q⟩ => q H _ S.h0 T.gP
theorem xe_call {W : WX} {k : Nat} {ms : List Bool} {g : GXn} {x : Str} {p pos : Pos} {e : Expr} {es : List Expr} {fa : AF} (h : HasX X.prog X.w X.K X.mg X.base k x g ms) (hr : Room k X.A) (tk : L2N.Takes X W) (hg : Gl X x) (ha : PA X (e :: es) (tM ms fa))
    (hdb : (x == ("__debug__" : Str)) = false := by decide) (he : starEach (e :: es) X.env = (false, eval e X.env) :: starEach es X.env := by rfl) (hpl : (backTo pos (starEach es X.env)).any (·.1) = false := by rfl) :
    PE X (.Call (.Name x p) (e :: es) [] pos) (tEX X.mg (WE W) (eCallX g fa)) := by
  obtain ⟨f, fd, ps, hm, hk, hb, F⟩ := h
  refine PE.imp (pe_callS F hr hg hm hk hb (fun σ => L2N.passAt tk σ) ha hdb he hpl) fun σ H Q ⟨B, H0, R0, R, env, S, q⟩ => ?_
  unfold eCallX at q
  cases hq : fa env with
  | none => rw [hq] at q; exact q.elim
  | some r =>
    obtain ⟨ds, e1⟩ := r
    rw [hq] at q
    simp only at q
    refine ⟨B, H0, R0, R, env, ds, e1, S, hq, fun vs R1 H1 S1 i1 j1 t1 => ⟨R1, ds, S1.rh, t1, ?_⟩⟩
    cases hg2 : g ds with
    | none => rw [hg2] at q; exact q.elim
    | some r =>
      rw [hg2] at q
      cases r with
      | val d fr => exact S1.cont fun v R' H' S' e1 e2 r => q v R' H' S' (i1.trans e1) (j1.trans e2) r
      | exc c => exact fun H' v i hm => q H' v (j1.trans i) hm
end
def outX : OutX → Option Rs
  | .ok (.rt d fr) => some (.val d fr)
  | .ok (.nx _) => some (.val .none false)
  | .ex c => some (.exc c)
  | _ => none
section
variable {P : Program} {w : World} {K : PySem.W.Frag} {mg : Str → Option Value} {base : Heap}
theorem fn_raise {x qual : Str} {st : Stmt} {f : Addr} {fd : FuncData} {N ps : List Str} {k : Nat} {ms : List Bool} {g : GXn} (F : Fun K x qual st f fd) (S : FnScope N ps (defScope st)) (hn : ps.length = ms.length)
    (hbody : ∀ (cdv : Value) (A : Around) (outer : List Env) (s : Shared) (H : Hp) (E : XK), Room k (A.deeper (envOfC qual (defScope st) s.heap.objs.size f cdv)) →
      ∃ fs : SX, PSs (cxOf (L2N.CX P w) P w K mg base N qual (defScope st) f cdv A outer s H E) (defBody st) (tX mg E fs) ∧ ∀ ds r, ds.length = ms.length → g ds = some r → outX (fs (envOf N.length ms ds)) = some r) :
    FnOk P w K mg base (L2N.CX P w) (k + 1) f fd ps (spX mg g ms) := by
  obtain ⟨oc, od, kV, doc, pm, an, cdv, ct, osl, rfl, lk, hcd⟩ := F.ex
  refine fn_of lk hcd S (fun vs H Q E h => ?_) fun A outer s H vs Q E hr h => ?_
  · obtain ⟨R, ds, _, ha, _⟩ := h
    obtain ⟨h1, h2⟩ := ha.len
    omega
  · obtain ⟨R, ds, e, hd, hm⟩ := h
    obtain ⟨fs, hp, hq⟩ := hbody cdv A outer s H E hr
    refine ⟨tX mg E fs, hp, H, H, R, R, envOf N.length ms ds, srel_start e hd, ?_⟩
    cases hg : g ds with
    | none => rw [hg] at hm; exact hm.elim
    | some r =>
      rw [hg] at hm
      have := hq ds r hd.len.2.symm hg
      cases ho : fs (envOf N.length ms ds) with
      | ex c =>
        rw [ho] at this
        cases this
        exact hm
      | ok o =>
        rw [ho] at this
        cases o with
        | rt d' fr' =>
          cases this
          exact hm
        | nx e' =>
          cases this
          intro σ' R' H' S' _
          exact hm .non R' H' S'.r0 S'.h0 S'.rh S'.new .non
        | bk _ => cases this
        | ct _ => cases this
        | bad => cases this
theorem hasX_mk {x : Str} {f : Addr} {fd : FuncData} {ps : List Str} {k : Nat} {ms : List Bool} {g : GXn} (hm : mg x = some (.ref f)) (hk : PySem.W.keepIn K (.ref f) = true) (hb : Binds K fd ps []) (F : FnOk P w K mg base (L2N.CX P w) k f fd ps (spX mg g ms)) : HasX P w K mg base k x g ms := ⟨f, fd, ps, hm, hk, hb, F⟩
end
end Fw
namespace Fw
open PySem PySem.Spec PyProof.Rows L2 Evl
/-! xs.count(True) -/
def rCntB (K : PySem.W.Frag) : V → List V → Hp → VK → Prop := fun x xs H Q => ∃ (p : Addr) (vs : List V) (ds : List PyData) (k : Bool), x = .ref p ∧ xs = [.bl k] ∧ SqL K H p vs ∧ DpAll K H vs ds ∧ ds.all Shape.bool.has = true ∧ Q (.int (countIn (.bool k) ds)) H
section
variable {X : Cx}
theorem mt_countB : MtR X "list.count" (rCntB X.K) := by
  intro pins s σ H x xs v us Q I rx rxs h
  obtain ⟨p, vs, ds, k, rfl, rfl, hs, hd, hall, q⟩ := h
  cases rx
  obtain ⟨u, rfl, ru⟩ := rxs.one
  cases ru
  obtain ⟨its, rv, hl, _⟩ := I.list hs
  obtain ⟨as, ra⟩ := Dp.readsAll I ds vs its hd rv
  exact count_list_bools hl.isList ra hall ⟨.int _, H, I.tok _, ⟨_, rfl⟩, q⟩
end
def boolD : PyData → Bool
  | .bool _ => true
  | _ => false
theorem boolD_has {d : PyData} (h : boolD d = true) : Shape.bool.has d = true := by
  cases d <;> first | rfl | cases h
def gCount (x y : PyData) : Option (PyData × Bool) := match x, y with
  | .list ds, .bool k => if ds.all boolD then some (.int (countIn (.bool k) ds), false) else none
  | _, _ => none
theorem dqa_dpa {K : PySem.W.Frag} {H : Hp} : ∀ {ds : List PyData} {vs : List V}, ds.all boolD = true → DqAll H vs ds → DpAll K H vs ds
  | [], _, _, h => by cases h; exact .nil
  | d :: ds, _, f, h => by
    rw [List.all_cons, Bool.and_eq_true] at f
    cases h with
    | cons a b =>
      refine .cons ?_ (dqa_dpa f.2 b)
      cases d with
      | bool k => cases a; exact .bl _
      | _ => exact absurd f.1 Bool.false_ne_true
section
variable {X : Cx} {a b : Expr} {pos apos : Pos} {fa fb : WF}
theorem qe_count (ha : PE X a (tW fa)) (hb : PE X b (tW fb)) (hbase : attributeBase a "count" X.env (eval a X.env) = eval a X.env := by rfl)
    (hfew : ((backTo pos (starEach [b] X.env)).all (fun x => !x.1) && (backToKw pos (keywordEach [] X.env)).all (fun x => x.1.isSome)
      && decide (([b] : List Expr).length + ([] : List Keyword).length + (if ([] : List Keyword).isEmpty then 0 else 1) < 30)) = true := by rfl)
    (hline : (apos.endLine == pos.line) = true := by rfl) (hs : starEach [b] X.env = (false, eval b X.env) :: starEach [] X.env := by rfl) (hplain : (backTo pos (starEach [] X.env)).any (·.1) = false := by rfl) :
    PE X (.Call (.Attribute a "count" apos) [b] [] pos) (tE (eBin gCount fa fb)) :=
  PE.imp (pe_bm PySem.F.plainAttrs_list PySem.F.slot_list_count PySem.F.type_list_count mt_countB ha (pa_cons hb pa_nil hs) hbase hfew hline hs hplain) fun σ H Q q => by
    obtain ⟨B, H0, R0, R, env, d, fr, env', S, hf, k⟩ := q
    unfold eBin at hf
    split at hf
    · cases hf
    · rename_i x e1 g1
      split at hf
      · cases hf
      · rename_i y e2 g2
        split at hf
        · cases hf
        · rename_i d' fr' g3
          cases hf
          unfold gCount at g3
          split at g3
          · rename_i ds kk
            split at g3
            · rename_i hall
              cases g3
              refine ⟨B, H0, R0, R, env, .list ds, e1, S, g1, fun u R1 H1 S1 i1 j1 t1 => ?_⟩
              obtain ⟨p, ws, rfl, h1, h2⟩ := top_list t1
              refine ⟨.inl ⟨rfl, ws, .inl (.inl h1)⟩, B, H0, R0, R1, e1, .bool kk, _, S1, g2, fun w R2 H2 S2 i2 j2 t2 => ?_⟩
              have ew := top_bl t2
              subst ew
              exact ⟨p, ws, ds, kk, rfl, rfl, .inl (.inl (j2 _ _ h1)), dqa_dpa hall (dpa_mono (S1.rh.trans j2) h2), List.all_eq_true.mpr fun d hd => boolD_has (List.all_eq_true.mp hall d hd), k _ R2 H2 S2 (i1.trans i2) (j1.trans j2) (.int _)⟩
            · cases g3
          · cases g3
end
/-! an exception that a suite holds, as an opaque datum -/
def opD (a : Addr) : PyData := .dict [(.int (Int.ofNat a), .none)]
theorem op_val {R : Hp} {v : V} {a : Addr} (h : Dq R v (opD a)) : v = .ref a := by
  unfold opD at h
  cases h with
  | op b => rfl
def eIsE (a : Addr) (i : Nat) (b : Bool) : EF := fun env => match env[i]? with
  | some (some (.dict [(.int z, .none)], false)) => if z = Int.ofNat a then some (.bool b, false, env) else none
  | _ => none
section
variable {X : Cx} {D : Addr} {p : Addr × Obj}
theorem call_isP (hp : p ∈ X.pn) (C : ExcC X.K D) (hz : Zc (.ref D) none p.2) (hf : ∃ vs, p.2.data = .fields vs) : CallR X (.builtin "isinstance") (rIsE X.K D p.1) := by
  intro pins s σ H xs us Q I r ⟨c, cv, b, exs, hrel, hkit, goal⟩
  subst exs
  cases r with
  | cons r1 rest =>
    cases rest with
    | cons r2 none_ =>
      cases none_
      cases r1
      obtain rfl := hrel _ r2
      have hget := (I.pin p (List.mem_append_left _ hp)).1
      obtain ⟨vs, hv⟩ := hf
      obtain ⟨a, oe⟩ := p
      obtain ⟨oc, od, oda, osl⟩ := oe
      obtain ⟨z1, z2⟩ := hz
      simp only at z1 z2 hv hget
      subst z1 z2 hv
      exact PySem.W.kia_one (PySem.W.handS_kitx_exc C.hg C.hk C.hs C.hd C.ha C.hn C.ht C.hm) I.kIn ⟨hget, rfl, rfl, trivial⟩ hkit (fun z => nomatch z) fun tk => ⟨.bl b, H, I.kept (t' := tk) fun _ _ q => q, rfl, goal⟩
variable {ty : V} {cv : Value} {b : Bool} {i : Nat} {e c : Expr} {q pos : Pos}
/-- isinstance(e, C), e the exception at p -/
theorem qe_isE (hp : p ∈ X.pn) (C : ExcC X.K D) (hz : Zc (.ref D) none p.2) (hf : ∃ vs, p.2.data = .fields vs) (hg : Gl X "isinstance") (hm : X.mg "isinstance" = none) (he : PE X e (tVar i)) (hc : PE X c (tC ty)) (hrel : ∀ u, RelV ty u → u = cv) (hk : PySem.W.kitOne X.K (.ref D) cv = some b)
    (h1 : starEach [e, c] X.env = (false, eval e X.env) :: starEach [c] X.env := by rfl) (h2 : (backTo pos (starEach [c] X.env)).any (·.1) = false := by rfl) (h3 : starEach [c] X.env = (false, eval c X.env) :: starEach [] X.env := by rfl) :
    PE X (.Call (.Name "isinstance" q) [e, c] [] pos) (tE (eIsE p.1 i b)) :=
  PE.imp (pe_callB (id := "isinstance") (call_isP hp C hz hf) hg hm (by decide +kernel) (pa_cons he (pa_cons hc pa_nil h3) h1) (by decide) (by decide) h1 h2) fun σ H Q qq => by
    obtain ⟨B, H0, R0, R, env, d, fr, env', S, hf, k⟩ := qq
    unfold eIsE at hf
    split at hf
    · rename_i z hz
      split at hf
      · rename_i hza
        cases hf
        subst hza
        obtain ⟨v, s1, s2⟩ := S.slot i _ hz
        have hv := op_val (a := p.1) (s2.dq rfl)
        subst hv
        exact ⟨_, s1, ty, cv, b, rfl, hrel, hk, k _ R H S (Ex.refl R) (Ex.refl H) (.bl b)⟩
      · cases hf
    · cases hf
end
section
variable {P : Program} {w : World} {K : PySem.W.Frag} {mg : Str → Option Value} {base : Heap}
/-- a def's body is run while the exception at p is held -/
theorem run_pin {CX : CXT} {k : Nat} {f : Addr} {x qual : Str} {st : Stmt} {fd : FuncData} {N ps : List Str} (F : Fun K x qual st f fd) (S : FnScope N ps (defScope st)) {A : Around} {outer : List Env} {s : Shared} {H : Hp} {args : Args} {us : List Value} {vs : List V} {Q : VK} {E : XK} {p : Addr × Obj} {t : TS}
    (hr : L2H.RoomH (k + 1) A) (hpin : L2H.PinOk outer H s p) (e0 : Env0 P w K mg base A outer s H) (hb : BindsTo s fd args (ps.zip us)) (r : Vals vs us) (hl : vs.length = ps.length)
    (hbody : ∀ cdv : Value, L2H.RoomH k (A.deeper (envOfC qual (defScope st) s.heap.objs.size f cdv)) → PSs (L2H.cxH CX P w K mg base N qual (defScope st) f cdv A outer s H E p) (defBody st) t) (hq : t { nx := fun _ H' => Q .non H', rt := Q } (L2.start N vs) H) :
    codeAny (model P w) A (.call (.ref f) args) (CR CX outer P w H s Q E) s := by
  obtain ⟨oc, od, kV, doc, pm, an, cdv, ct, osl, rfl, lk, hcd⟩ := F.ex
  have inK := e0.mod.kin.keeps fun b o z => (e0.bs b o z).1
  have noL := e0.mod.nolimit.keeps fun b o z => (e0.bs b o z).1
  refine codeAny_call_function hr.depth (inK _ _ lk) rfl S.co S.gen rfl (PySem.W.codeRec_of inK hcd) (hb _ _ _ _ (wpAny_newFunctionEnv_cells S.kind (fun y hy => ?_) fun env he s1 x => ?_))
  · obtain ⟨n, v⟩ := y
    exact (S.par n (List.of_mem_zip hy).1).imp id fun z => ⟨z, PySem.W.cellsFrom_some _ _ _ (.inl z)⟩
  · subst he
    refine ⟨noL.keeps x.toInCall.keep, codeAny_func (wpAny_mono ((hbody cdv (hr.deeper _)).run [] s1 (L2.start N vs) H _ (L2H.inv_startH S hpin e0 hl r x) hq) (fun fl s' hs => ?_) fun e s' hs => hs)⟩
    have fin : ∀ {σ' : L2.St} {H' : Hp} {v : V} {u : Value}, Inv (L2H.cxH CX P w K mg base N qual (defScope st) f cdv A outer s H E p) [] σ' H' s' → RelV v u → Q v H' → CE outer P w H s Q u s' := fun J rv z => ⟨_, _, J.os, J.bare, J.base, J.hok, rv, z⟩
    match fl, hs with
    | .ret u, ⟨v, σ', H', J, rv, z⟩ => exact fin J rv z
    | .next, ⟨σ', H', J, z⟩ => exact fin (v := V.non) (u := Value.none) J rfl z
    | .brk, ⟨_, _, _, z⟩ => exact z.elim
    | .cont, ⟨_, _, _, z⟩ => exact z.elim
end
section
variable {X : Cx} {p : Addr × Obj} {k : Nat} {x qual : Str} {st : Stmt} {f : Addr} {fd : FuncData} {N ps : List Str} {ms : List Bool} {g : List PyData → Option (PyData × Bool)} {fs : SF} {q pos : Pos} {e : Expr} {es : List Expr} {fa : AF}
/-- a call within a suite, of a def that looks at the exception -/
theorem qe_pinned (hp : p ∈ X.pn) (F : Fun X.K x qual st f fd) (S : FnScope N ps (defScope st)) (hr : L2H.RoomH (k + 1) X.A) (hg : Gl X x) (hm : X.mg x = some (.ref f)) (hb : Binds X.K fd ps []) (hn : ps.length = ms.length)
    (hder : ∀ (cdv : Value) (A : Around) (outer : List Env) (s : Shared) (H : Hp) (E : XK), L2H.RoomH k (A.deeper (envOfC qual (defScope st) s.heap.objs.size f cdv)) → PSs (L2H.cxH CX0 X.prog X.w X.K X.mg X.base N qual (defScope st) f cdv A outer s H E p).nox (defBody st) (tS fs))
    (hgf : ∀ ds d fr, ds.length = ms.length → g ds = some (d, fr) → outR (fs (envOf N.length ms ds)) = some (d, fr)) (ha : PA X (e :: es) (tM ms fa))
    (hdb : (x == ("__debug__" : Str)) = false := by decide) (he : starEach (e :: es) X.env = (false, eval e X.env) :: starEach es X.env := by rfl) (hpl : (backTo pos (starEach es X.env)).any (·.1) = false := by rfl) :
    PE X (.Call (.Name x q) (e :: es) [] pos) (tE (eCall g fa)) := by
  refine ⟨fun pins s σ H Q I h => wpAny_Call_Name_kw (ld_glob I hg hm ?_ hdb)⟩
  obtain ⟨B, H0, R0, R, env, d, fr, env', S0, hf, kk⟩ := h
  unfold eCall at hf
  cases hfa : fa env with
  | none => rw [hfa] at hf; cases hf
  | some z =>
    obtain ⟨ds, e1⟩ := z
    rw [hfa] at hf
    simp only at hf
    cases hgd : g ds with
    | none => rw [hgd] at hf; cases hf
    | some z =>
      obtain ⟨d1, fr1⟩ := z
      rw [hgd] at hf
      cases hf
      refine PySem.W.callWith_K (h₀ := X.base) I.ok.mod.kin F.kp (thn (ha.run pos pins s σ H (fun vs H1 => ∃ R1, SRel B H0 R0 R1 H1 σ env' ∧ Ex R R1 ∧ Ex H H1 ∧ ArgAll R1 H1 ms vs ds) I ⟨B, H0, R0, R, env, ds, _, S0, hfa, fun vs R1 H1 S1 i1 j1 t1 => ⟨R1, S1, i1, j1, t1⟩⟩) fun us s1 ⟨vs, H1, I1, r, R1, S1, i1, j1, t1⟩ => ⟨I1.kIn, ?_⟩) he hpl
      have hlen : vs.length = ps.length := by rw [t1.len.1, ← t1.len.2, hn]
      have hlu : us.length = ps.length := by rw [← r.length]; exact hlen
      have hbind := hb s1 us I1.kIn (by rw [List.append_nil]; exact hlu)
      rw [List.append_nil] at hbind
      have P1 := I1.pin p (List.mem_append_left _ hp)
      have hpin : L2H.PinOk X.stack H1 s1 p := ⟨P1.1, P1.2.1, fun hm => (List.mem_cons.mp (I1.stkSub p.1 hm)).elim P1.2.2.1 P1.2.2.2.1, P1.2.2.2.2⟩
      have kq : Cont R1 H1 d fr Q := S1.cont fun v R' H' S' e1 e2 r => kk v R' H' S' (i1.trans e1) (j1.trans e2) r
      have body : tS fs { nx := fun _ H' => Q .non H', rt := Q } (L2.start N vs) H1 := by
        refine ⟨H1, H1, R1, R1, envOf N.length ms ds, srel_start S1.rh t1, ?_⟩
        have hq := hgf ds d fr t1.len.2.symm hgd
        cases ho : fs (envOf N.length ms ds) with
        | rt d' fr' =>
          rw [ho] at hq
          cases hq
          exact kq
        | nx e' =>
          rw [ho] at hq
          cases hq
          intro σ' R' H' S' _
          exact kq .non R' H' S'.r0 S'.h0 S'.rh S'.new .non
        | bk _ => rw [ho] at hq; cases hq
        | ct _ => rw [ho] at hq; cases hq
        | bad => rw [ho] at hq; cases hq
      refine wpAny_call (codeAny_mono (run_pin (CX := CX0) (E := E0) (Q := Q) F S hr hpin I1.env0 hbind r hlen (fun cdv hrd => (hder cdv _ _ _ _ _ hrd).nox) body) fun rr s' hq => ?_)
      match rr, hq with
      | .error e, hq => exact hq.elim
      | .ok (.ret u), hq => exact I1.after hq
      | .ok .next, hq => exact hq.elim
      | .ok .brk, hq => exact hq.elim
      | .ok .cont, hq => exact hq.elim
end
end Fw
namespace Fw
open PySem PySem.Spec PyProof.Rows L2 Evl
/-! an exception is told: its name, as a number -/
theorem takesN {X : Cx} : L2N.Takes X (fun _ _ _ _ => False) := fun _ _ ⟨_, _, _, _, _, _, _, _, _, _, _, _, _, _, _, _, w⟩ => w.elim
def gExc (a : Addr) (z : Int) : List PyData → Option (PyData × Bool)
  | [.dict [(.int w, .none)]] => if w = Int.ofNat a then some (.int z, false) else none
  | _ => none
def sTold (i : Nat) (cod : Str → Option Int) (fx : EFX) : SF := fun env => match fx env with
  | some (.val d fr, _) => .rt d fr
  | some (.exc c, _) => (match cod c with
    | some z => if i < env.length then .rt (.int z) false else .bad
    | none => .bad)
  | none => .bad
theorem told_suite {i : Nat} {a : Addr} {z : Int} {env : En} (h : i < env.length) : sRet (eCall (gExc a z) (bCons (wVar i) aNil)) (env.set i (some (opD a, false))) = .rt (.int z) false := by
  have h1 : wVar i (env.set i (some (opD a, false))) = some (opD a, env.set i (some (opD a, false))) := by
    unfold wVar
    rw [List.getElem?_set_self h]
    rfl
  have h2 : bCons (wVar i) aNil (env.set i (some (opD a, false))) = some ([opD a], env.set i (some (opD a, false))) := by
    unfold bCons
    rw [h1]
    rfl
  have h3 : eCall (gExc a z) (bCons (wVar i) aNil) (env.set i (some (opD a, false))) = some (.int z, false, env.set i (some (opD a, false))) := by
    unfold eCall
    rw [h2]
    have : gExc a z [opD a] = some (.int z, false) := if_pos rfl
    simp only [this]
  unfold sRet
  rw [h3]
section
variable {X : Cx}
theorem qs_told {e es : Expr} {fx : EFX} {cod : Str → Option Int} {i : Nat} {n : Str} {NA : Addr} {p1 p2 np pos pos' : Pos}
    (hs : X.stack = X.env :: X.outer) (hf : X.env.frame = some X.env.locals) (hN : X.N.Nodup) (hi : X.N[i]? = some n) (hln : X.env.kindOf n = some .local) (gN : Gl X "NetError") (mN : X.mg "NetError" = some (.ref NA))
    (hex : ∀ c z C, cod c = some z → X.mg c = some (.ref C) → PySem.W.exmOne X.K (.ref C) (.ref NA) = some true) (hcl : ∀ c z, cod c = some z → ∃ C, X.mg c = some (.ref C))
    (hb : ∀ (W : WX) (pn : List (Addr × Obj)) (xe : Value → Shared → Prop), L2N.Takes (X.tr pn xe) W → PE (X.tr pn xe) e (tEX X.mg (WE W) fx))
    (hsu : ∀ (a : Addr) (oe : Obj) (c : Str) (C : Addr) (z : Int) (pn : List (Addr × Obj)), X.mg c = some (.ref C) → cod c = some z → L2N.Zn (.ref C) none oe → (∃ vs, oe.data = .fields vs) → PE (X.suite a ((a, oe) :: pn)) es (tE (eCall (gExc a z) (bCons (wVar i) aNil)))) :
    PS X (.Try [.Return (some e) p1] [.ExceptHandler (some (.Name "NetError" np)) (some n) [.Return (some es) p2] pos'] [] [] pos) (tS (sTold i cod fx)) := by
  refine PS.imp (L2N.ps_try_as (c := .ref NA) (i := i) (tb := fun W => tRet (tEX X.mg (WE W) fx)) (ts := fun a cls d D σ H => ∃ c C z, X.mg c = some (.ref C) ∧ cls = .ref C ∧ d = none ∧ cod c = some z ∧ tS (sRet (eCall (gExc a z) (bCons (wVar i) aNil))) D σ H) (Wout := fun _ _ _ _ => False) hs hf hN hi hln ⟨gN, by decide, .inl mN⟩ takesN
    (fun W pn xe tk _ => pss_one (ps_ret (hb W pn xe tk))) fun a oe cls d pn hz hd => ⟨fun pins s σ H D I h => ?_⟩) fun D σ H ⟨B, H0, R0, R, env, S, q⟩ => ?_
  · obtain ⟨c, C, z, hm, rfl, rfl, hc, t⟩ := h
    exact (pss_one (qs_ret (hsu a oe c C z pn hm hc hz hd))).run pins s σ H D I t
  · unfold sTold at q
    refine ⟨B, H0, R0, R, env, S, ?_⟩
    cases hq : fx env with
    | none => rw [hq] at q; exact q.elim
    | some r =>
      obtain ⟨r, e1⟩ := r
      rw [hq] at q
      cases r with
      | val d fr => exact fun v R' H' S' i j r => q v R' H' S'.r0 S'.h0 S'.rh S'.new (r.rres S')
      | exc c =>
        simp only at q ⊢
        cases hc : cod c with
        | none => rw [hc] at q; exact q.elim
        | some z =>
          rw [hc] at q
          simp only at q
          by_cases hl : i < env.length
          · rw [if_pos hl] at q
            intro H' v ej hm
            obtain ⟨C, hC⟩ := hcl c z hc
            rw [hC] at hm
            cases hm
            refine ⟨true, hex c z C hc hC, fun _ a ha => ⟨c, C, z, hC, rfl, rfl, hc, B, H0, R0, R, env.set i (some (opD a, false)), (S.grow ej).setS (.op a), ?_⟩, fun z => nomatch z⟩
            rw [told_suite hl]
            exact q
          · rw [if_neg hl] at q
            exact q.elim
end
/-! [e], where e may raise -/
def eXL1 (fx : EFX) : EFX := fun env => match fx env with
  | some (.val d _, e1) => some (.val (.list [d]) true, e1)
  | some (.exc c, e1) => some (.exc c, e1)
  | none => none
section
variable {X : Cx} {mg : Str → Option Value} {E : L2.St → XK} {e : Expr} {pos : Pos} {fx : EFX}
theorem xe_lst1 (h : PE X e (tEX mg E fx)) (hs : starEach [e] X.env = (false, eval e X.env) :: starEach [] X.env := by rfl) : PE X (.List [e] pos) (tEX mg E (eXL1 fx)) := PE.imp (pe_lst (pa_cons h pa_nil hs)) fun σ H Q ⟨B, H0, R0, R, env, S, q⟩ => by
  refine ⟨B, H0, R0, R, env, S, ?_⟩
  unfold eXL1 at q
  cases hq : fx env with
  | none => rw [hq] at q; exact q.elim
  | some r =>
    obtain ⟨r, e1⟩ := r
    rw [hq] at q
    cases r with
    | exc c => exact q
    | val d fr =>
      simp only at q
      intro v R' H' S' i j r
      obtain ⟨R2, i2, S2, hd⟩ := r.share S'
      refine ⟨by show 1 ≤ sizeLine; decide, fun p hp => ?_⟩
      exact Cont.nowL S2.rh (S2.cont fun v R'' H'' S'' e1 e2 r => q v R'' H'' S'' ((i.trans i2).trans e1) (j.trans e2) r) hp (.cons hd .nil)
end
/-! [f, g][i](..) -/
def eSel (iw : Nat) (g0 g1 : GXn) (fa : AF) : EFX := fun env => match env[iw]? with
  | some (some (.int k, false)) => if k = 0 then eCallX g0 fa env else if k = 1 then eCallX g1 fa env else none
  | _ => none
section
variable {X : Cx}
theorem xe_sel {W : WX} {k k0' k1' iw : Nat} {ms : List Bool} {g0 g1 : GXn} {x0 x1 : Str} {p0 p1 q1 q2 pos : Pos} {ew e : Expr} {es : List Expr} {fa : AF} (h0 : HasX X.prog X.w X.K X.mg X.base k0' x0 g0 ms) (h1 : HasX X.prog X.w X.K X.mg X.base k1' x1 g1 ms) (hr : Room k X.A) (hk0 : k0' ≤ k) (hk1 : k1' ≤ k) (tk : L2N.Takes X W)
    (hg0 : Gl X x0) (hg1 : Gl X x1) (hw : PE X ew (tVar iw)) (hp : PlainIx ew) (ha : PA X (e :: es) (tM ms fa)) (hd0 : (x0 == ("__debug__" : Str)) = false := by decide) (hd1 : (x1 == ("__debug__" : Str)) = false := by decide)
    (hs0 : starEach [.Name x0 p0, .Name x1 p1] X.env = (false, eval (.Name x0 p0) X.env) :: starEach [.Name x1 p1] X.env := by rfl) (hs1 : starEach [.Name x1 p1] X.env = (false, eval (.Name x1 p1) X.env) :: starEach [] X.env := by rfl)
    (he : starEach (e :: es) X.env = (false, eval e X.env) :: starEach es X.env := by rfl) (hpl : (backTo pos (starEach es X.env)).any (·.1) = false := by rfl) :
    PE X (.Call (.Subscript (.List [.Name x0 p0, .Name x1 p1] q1) ew q2) (e :: es) [] pos) (tEX X.mg (WE W) (eSel iw g0 g1 fa)) := by
  obtain ⟨f0, fd0, ps0, m0, k0, b0, F0⟩ := h0
  obtain ⟨f1, fd1, ps1, m1, k1, b1, F1⟩ := h1
  refine ⟨fun pins s σ H Q I ⟨B, H0, R0, R, env, S, q⟩ => ?_⟩
  have hz' : ∃ z, env[iw]? = some (some (.int z, false)) := by
    unfold eSel at q
    cases h : env[iw]? with
    | none => rw [h] at q; exact q.elim
    | some o =>
      rw [h] at q
      cases o with
      | none => exact q.elim
      | some r =>
        obtain ⟨d, b⟩ := r
        cases b with
        | true => cases d <;> exact q.elim
        | false => cases d <;> first | exact ⟨_, rfl⟩ | exact q.elim
  obtain ⟨z, hz⟩ := hz'
  unfold eSel at q
  rw [hz] at q
  simp only at q
  have hv := S.int_at hz
  show wpAny _ _ (do callWith pos (← eval (.Subscript (.List [.Name x0 p0, .Name x1 p1] q1) ew q2) X.env) [] (backTo pos (starEach (e :: es) X.env)) (backToKw pos (keywordEach [] X.env))) _ _ _
  refine wpAny_bind ?_
  have hl := pe_ix (pos := q2) ix_list (pe_lst (pos := q1) (pa_cons (pe_glob (v := .ref f0) (pos := p0) hg0 m0 rfl hd0) (pa_cons (pe_glob (v := .ref f1) (pos := p1) hg1 m1 rfl hd1) pa_nil hs1) hs0)) hw hp
  have go : ∀ {k' : Nat} {f : Addr} {fd : FuncData} {ps : List Str} {g : GXn}, PySem.W.keepIn X.K (.ref f) = true → Binds X.K fd ps [] → FnOk X.prog X.w X.K X.mg X.base (L2N.CX X.prog X.w) k' f fd ps (spX X.mg g ms) → k' ≤ k → atI [V.ref f0, V.ref f1] z = some (.ref f) →
      (match eCallX g fa env with
        | some (.val d fr, env') => ∀ v R' H', SRel B H0 R0 R' H' σ env' → Ex R R' → Ex H H' → Res H0 R' H' σ env' v d fr → Q v H'
        | some (.exc c, _) => ∀ H' v, Ex H H' → X.mg c = some v → WE W σ v none H'
        | none => False) → wpAny (model X.prog X.w) X.A (eval (.Subscript (.List [.Name x0 p0, .Name x1 p1] q1) ew q2) X.env) (fun v s' => wpAny (model X.prog X.w) X.A (callWith pos v [] (backTo pos (starEach (e :: es) X.env)) (backToKw pos (keywordEach [] X.env))) (EP X pins σ Q) X.xe s') X.xe s := by
    intro k' f fd ps g kf bf F hk' hat q
    refine thn (hl.run pins s σ H (fun v H1 => v = .ref f ∧ Ex H H1) I ⟨by show 2 ≤ sizeLine; decide, fun p hp => ⟨_, hv, p, _, z, _, rfl, rfl, .inl (.inl upd_same), hat, rfl, Ex.new hp⟩⟩) fun u s1 ⟨v, H1, I1, r1, q1, e1⟩ => ?_
    subst q1
    cases r1
    unfold eCallX at q
    cases hq : fa env with
    | none => rw [hq] at q; exact q.elim
    | some r =>
      obtain ⟨ds, en1⟩ := r
      rw [hq] at q
      simp only at q
      refine PySem.W.callWith_K (h₀ := X.base) I.ok.mod.kin kf (thn (ha.run pos pins s1 σ H1 (fun vs H2 => spX X.mg g ms vs H2 Q (WE W σ)) I1 ⟨B, H0, R0, R, env, ds, en1, S.grow e1, hq, fun vs R1 H2 S1 i1 j1 t1 => ⟨R1, ds, S1.rh, t1, ?_⟩⟩) fun us s2 ⟨vs, H2, I2, r, q⟩ => ⟨I2.kIn, ?_⟩) he hpl
      · cases hg2 : g ds with
        | none => rw [hg2] at q; exact q.elim
        | some r =>
          rw [hg2] at q
          cases r with
          | val d fr => exact S1.cont fun v R' H' S' e3 e4 r => q v R' H' S' (i1.trans e3) ((e1.trans j1).trans e4) r
          | exc c => exact fun H' v i hm => q H' v ((e1.trans j1).trans i) hm
      · exact run_fnS F (hr.mono hk') bf (L2N.passAt tk σ) I2 r q
  by_cases z0 : z = 0
  · subst z0
    rw [if_pos rfl] at q
    refine go k0 b0 F0 hk0 rfl ?_
    cases hq : eCallX g0 fa env with
    | none => rw [hq] at q; exact q
    | some r =>
      obtain ⟨r, e1⟩ := r
      rw [hq] at q
      cases r <;> exact q
  · by_cases z1 : z = 1
    · subst z1
      rw [if_neg (by decide), if_pos rfl] at q
      refine go k1 b1 F1 hk1 rfl ?_
      cases hq : eCallX g1 fa env with
      | none => rw [hq] at q; exact q
      | some r =>
        obtain ⟨r, e1⟩ := r
        rw [hq] at q
        cases r <;> exact q
    · rw [if_neg z0, if_neg z1] at q
      exact q.elim
end
end Fw
namespace Fw
open PySem PySem.Spec PyProof.Rows L2 Evl
theorem unitsH {k : Nat} {A : Around} (r : L2H.RoomH k A) : A.units + 64 < cLine := by have := r.un; omega
/-! the classes that are asked for -/
def TyOf (mg : Str → Option Value) (x : Str) (cv : Value) : Prop := (∃ D, mg x = some (.ref D) ∧ cv = .ref D) ∨ (mg x = none ∧ ∃ n, bootBuiltins x = some (.type n) ∧ cv = .type n ∧ x ≠ "__name__")
def isc (c x : Str) : Bool := x == c || x == ("ValueError" : Str)
structure ClsF (K : PySem.W.Frag) (mg : Str → Option Value) (nms : List Str) (c : Str) (C : Addr) : Prop where
  r : ExcR K mg c C
  e : ExcC K C
  ex : ∀ NA, mg "NetError" = some (.ref NA) → PySem.W.exmOne K (.ref C) (.ref NA) = some true
  is : ∀ x ∈ nms, ∃ cv, TyOf mg x cv ∧ PySem.W.kitOne K (.ref C) cv = some (isc c x)
/-- of every class that has a number -/
def AllC (K : PySem.W.Frag) (mg : Str → Option Value) (nms : List Str) (cod : Str → Option Int) : Prop := ∀ c z, cod c = some z → ∃ C, ClsF K mg nms c C
section
variable {X : Cx}
theorem qe_isN {D : Addr} {p : Addr × Obj} {x : Str} {nms : List Str} {c : Str} {i : Nat} {e : Expr} {q q2 pos : Pos} (hp : p ∈ X.pn) (C : ClsF X.K X.mg nms c D) (hz : Zc (.ref D) none p.2) (hf : ∃ vs, p.2.data = .fields vs) (hx : x ∈ nms) (hg : Gl X "isinstance") (hm : X.mg "isinstance" = none) (gx : Gl X x)
    (he : PE X e (tVar i)) (hd : (x == ("__debug__" : Str)) = false := by decide)
    (h1 : starEach [e, .Name x q2] X.env = (false, eval e X.env) :: starEach [.Name x q2] X.env := by rfl) (h2 : (backTo pos (starEach [.Name x q2] X.env)).any (·.1) = false := by rfl) (h3 : starEach [.Name x q2] X.env = (false, eval (.Name x q2) X.env) :: starEach [] X.env := by rfl) :
    PE X (.Call (.Name "isinstance" q) [e, .Name x q2] [] pos) (tE (eIsE p.1 i (isc c x))) := by
  obtain ⟨cv, ht, hk⟩ := C.is x hx
  rcases ht with ⟨D', hD, rfl⟩ | ⟨hn, n, hb, rfl, hne⟩
  · exact qe_isE hp C.e hz hf hg hm he (pe_glob (v := .ref D') gx hD rfl hd) (fun _ h => h) hk h1 h2 h3
  · exact qe_isE hp C.e hz hf hg hm he (pe_bltn (v := .ty n) gx hn hb rfl hne hd) (fun _ h => h) hk h1 h2 h3
theorem qs_told' {e es : Expr} {fx : EFX} {nms : List Str} {cod : Str → Option Int} {i : Nat} {n : Str} {NA : Addr} {p1 p2 np pos pos' : Pos}
    (hC : AllC X.K X.mg nms cod) (hs : X.stack = X.env :: X.outer) (hf : X.env.frame = some X.env.locals) (hN : X.N.Nodup) (hi : X.N[i]? = some n) (hln : X.env.kindOf n = some .local) (gN : Gl X "NetError") (mN : X.mg "NetError" = some (.ref NA))
    (hb : ∀ (W : WX) (pn : List (Addr × Obj)) (xe : Value → Shared → Prop), L2N.Takes (X.tr pn xe) W → PE (X.tr pn xe) e (tEX X.mg (WE W) fx))
    (hsu : ∀ (a : Addr) (oe : Obj) (c : Str) (C : Addr) (z : Int) (pn : List (Addr × Obj)), ClsF X.K X.mg nms c C → cod c = some z → Zc (.ref C) none oe → (∃ vs, oe.data = .fields vs) → PE (X.suite a ((a, oe) :: pn)) es (tE (eCall (gExc a z) (bCons (wVar i) aNil)))) :
    PS X (.Try [.Return (some e) p1] [.ExceptHandler (some (.Name "NetError" np)) (some n) [.Return (some es) p2] pos'] [] [] pos) (tS (sTold i cod fx)) :=
  qs_told hs hf hN hi hln gN mN (fun c z C hc hm => by
      obtain ⟨C', h⟩ := hC c z hc
      have := h.r.gP
      rw [hm] at this
      cases this
      exact h.ex NA mN) (fun c z hc => by
      obtain ⟨C', h⟩ := hC c z hc
      exact ⟨C', h.r.gP⟩) hb fun a oe c C z pn hm hc hz hd => by
      obtain ⟨C', h⟩ := hC c z hc
      have := h.r.gP
      rw [hm] at this
      cases this
      exact hsu a oe c C z pn h hc hz.zc hd
end
/-! what a class is asked for, from the written part -/
theorem kit_own {K : PySem.W.Frag} {C D : Addr} {b : Bool} (hd : PySem.W.hasDictIn K D = true) (ht : PySem.W.typeIn K (.ref D) = some (.type "type")) (hs : PySem.W.subIn K (.ref C) (.ref D) = some b) (he : (Value.ref C == Value.ref D) = true → b = true) : PySem.W.kitOne K (.ref C) (.ref D) = some b := by
  unfold PySem.W.kitOne
  by_cases h : (Value.ref C == Value.ref D) = true
  · rw [if_pos h, he h]
  · rw [if_neg h]
    obtain ⟨cd, hc, _⟩ := PySem.W.any_some hd
    have e2 : ((PySem.W.clsIn K D).isSome && PySem.W.typeIn K (.ref D) == some (.type "type")) = true := by rw [hc, ht] <;> rfl
    show (if ((PySem.W.clsIn K D).isSome && PySem.W.typeIn K (.ref D) == some (.type "type")) = true then PySem.W.subIn K (.ref C) (.ref D) else none) = some b
    rw [if_pos e2]
    exact hs
theorem kit_val {K : PySem.W.Frag} {C : Addr} (hs : PySem.W.subIn K (.ref C) (.type "ValueError") = some true) : PySem.W.kitOne K (.ref C) (.type "ValueError") = some true := by
  unfold PySem.W.kitOne
  split
  · rfl
  · show (if PySem.W.kitMeta "ValueError" = true then PySem.W.subIn K (.ref C) (.type "ValueError") else none) = some true
    rw [if_pos (by decide +kernel)]
    exact hs
end Fw
namespace Fw
open PySem PySem.Spec PyProof.Rows L2 Evl
section
variable {env e1 : En} {i : Nat} {a : Addr} {b : Bool}
theorem v_isE (h : env[i]? = some (some (opD a, false))) : eIsE a i b env = some (.bool b, false, env) := by
  unfold eIsE
  rw [h]
  exact if_pos rfl
end
section
variable {env e1 e2 : En} {d : PyData} {fr b : Bool} {c : Str} {f g : SX} {sf : SF} {fx : EFX} {fa : AF} {ds : List PyData} {G : GXn} {r : Rs} {o : OutX} {i : Nat} {z : Int} {cod : Str → Option Int} {ft : TF}
theorem y_seq (h : f env = .ok (.nx e1)) (h2 : g e1 = o) : xSeq f g env = o := by
  unfold xSeq
  rw [h]
  exact h2
theorem y_seqx (h : f env = .ex c) : xSeq f g env = .ex c := by
  unfold xSeq
  rw [h]
theorem y_seqr (h : f env = .ok (.rt d fr)) : xSeq f g env = .ok (.rt d fr) := by
  unfold xSeq
  rw [h]
theorem y_p {p : Out} (h : sf env = p) : xP sf env = .ok p := by
  unfold xP
  rw [h]
theorem y_if (h : ft env = some (b, e1)) (h1 : b = true → f e1 = o) (h2 : b = false → g e1 = o) : xIf ft f g env = o := by
  unfold xIf
  rw [h]
  cases b with
  | true => exact h1 rfl
  | false => exact h2 rfl
theorem y_dropv (h : fx env = some (.val d fr, e1)) : xDrop fx env = .ok (.nx e1) := by
  unfold xDrop
  rw [h]
theorem y_dropx (h : fx env = some (.exc c, e1)) : xDrop fx env = .ex c := by
  unfold xDrop
  rw [h]
theorem y_setv (h : fx env = some (.val d fr, e1)) : xSet i fx env = .ok (.nx (e1.set i (some (d, fr)))) := by
  unfold xSet
  rw [h]
theorem y_setx (h : fx env = some (.exc c, e1)) : xSet i fx env = .ex c := by
  unfold xSet
  rw [h]
theorem y_retv (h : fx env = some (.val d fr, e1)) : xRet fx env = .ok (.rt d fr) := by
  unfold xRet
  rw [h]
theorem y_retx (h : fx env = some (.exc c, e1)) : xRet fx env = .ex c := by
  unfold xRet
  rw [h]
theorem y_call (h1 : fa env = some (ds, e1)) (h2 : G ds = some r) : eCallX G fa env = some (r, e1) := by
  unfold eCallX
  rw [h1]
  simp only [h2]
theorem y_lst1v (h : fx env = some (.val d fr, e1)) : eXL1 fx env = some (.val (.list [d]) true, e1) := by
  unfold eXL1
  rw [h]
theorem y_lst1x (h : fx env = some (.exc c, e1)) : eXL1 fx env = some (.exc c, e1) := by
  unfold eXL1
  rw [h]
theorem y_sel0 {g0 g1 : GXn} (h : env[i]? = some (some (.int 0, false))) (h2 : eCallX g0 fa env = some (r, e1)) : eSel i g0 g1 fa env = some (r, e1) := by
  unfold eSel
  rw [h]
  exact h2
theorem y_sel1 {g0 g1 : GXn} (h : env[i]? = some (some (.int 1, false))) (h2 : eCallX g1 fa env = some (r, e1)) : eSel i g0 g1 fa env = some (r, e1) := by
  unfold eSel
  rw [h]
  exact h2
theorem y_toldv (h : fx env = some (.val d fr, e1)) : sTold i cod fx env = .rt d fr := by
  unfold sTold
  rw [h]
theorem y_toldx (h : fx env = some (.exc c, e1)) (hc : cod c = some z) (hi : i < env.length) : sTold i cod fx env = .rt (.int z) false := by
  unfold sTold
  rw [h]
  simp only [hc, if_pos hi]
end
theorem exc_of {a : Addr} {z : Int} {ds : List PyData} {d : PyData} {fr : Bool} (hg : gExc a z ds = some (d, fr)) : ds = [opD a] ∧ d = .int z ∧ fr = false := by
  unfold gExc at hg
  split at hg
  · rename_i w
    split at hg
    · rename_i e
      subst e
      cases hg
      exact ⟨rfl, rfl, rfl⟩
    · cases hg
  · cases hg
end Fw
namespace Fw
open PySem PySem.Spec PyProof.Rows L2 Evl
/-! what a call told is new: its lists stood nowhere before -/
theorem new_lst {R R' H1 H : Hp} (hr : Ex R' H) (hn : ∀ b o, R' b = some o → tupsOf R b = none → H1 b = none) (hx : Ex (tupsOf R) R') {v : V} {D : List PyData} (h : Dq R' v (.list D)) :
    ∃ b xs, v = .ref b ∧ H b = some (.lst xs) ∧ H1 b = none ∧ xs.length = D.length ∧ DqAll R' xs D := by
  cases h with
  | @lst a xs ds e q =>
    have e' : R' a = some (.lst xs) := e
    refine ⟨a, xs, rfl, hr _ _ e', hn a _ e' ?_, dpa_len q, q⟩
    cases hq : tupsOf R a with
    | none => rfl
    | some o =>
      have h2 := hx a o hq
      rw [e'] at h2
      cases h2
      exact absurd hq tups_no
section
variable {R H : Hp} {ms : List Bool} {vs : List V} {ds : List PyData} {g : List PyData → Option (PyData × Bool)} {Q : VK} {E : XK}
theorem call_v {d : PyData} (e : Ex R H) (ha : ArgAll (tupsOf R) H ms vs ds) (hg : g ds = some (d, false)) (k : ∀ v Hn, Ex H Hn → Dq Hn v d → Q v Hn) : spD g ms vs H Q E :=
  ⟨tupsOf R, ds, _, false, (tups_ex R).trans e, ha, hg, fun v Rn Hn e1 e2 e3 hnew hres => k v Hn e2 (dp_mono e3 hres)⟩
theorem call_l1 {D : List PyData} (e : Ex R H) (ha : ArgAll (tupsOf R) H ms vs ds) (hg : g ds = some (.list [.list D], true))
    (k : ∀ a b xs Hn, Ex H Hn → Hn a = some (.lst [.ref b]) → Hn b = some (.lst xs) → H b = none → xs.length = D.length → Dq Hn (.ref a) (.list [.list D]) → Q (.ref a) Hn) : spD g ms vs H Q E := by
  refine ⟨tupsOf R, ds, _, true, (tups_ex R).trans e, ha, hg, fun v Rn Hn e1 e2 e3 hnew hres => ?_⟩
  obtain ⟨a, ws, es, rfl, hds, hHa, hRa, hHa0, hall⟩ := hres
  cases hds
  have hd : Dq Hn (.ref a) (.list [.list D]) := .lst hHa (dpa_mono e3 hall)
  cases hall with
  | cons p q =>
    cases q
    obtain ⟨b, xs, rfl, h1, h2, h3, _⟩ := new_lst e3 hnew e1 p
    exact k a b xs Hn e2 hHa h1 h2 h3 hd
theorem call_t1 {m : Int} {D : List PyData} (e : Ex R H) (ha : ArgAll (tupsOf R) H ms vs ds) (hg : g ds = some (.list [.tuple [.int m, .list D]], true))
    (k : ∀ a t b xs Hn, Ex H Hn → Hn a = some (.lst [.ref t]) → Hn t = some (.tup [.int m, .ref b]) → Hn b = some (.lst xs) → H b = none → xs.length = D.length → Dq Hn (.ref a) (.list [.tuple [.int m, .list D]]) → Q (.ref a) Hn) : spD g ms vs H Q E := by
  refine ⟨tupsOf R, ds, _, true, (tups_ex R).trans e, ha, hg, fun v Rn Hn e1 e2 e3 hnew hres => ?_⟩
  obtain ⟨a, ws, es, rfl, hds, hHa, hRa, hHa0, hall⟩ := hres
  cases hds
  have hd : Dq Hn (.ref a) (.list [.tuple [.int m, .list D]]) := .lst hHa (dpa_mono e3 hall)
  cases hall with
  | cons p q =>
    cases q
    cases p with
    | @tup t xs _ e4 q4 =>
      cases q4 with
      | cons q5 q6 =>
        cases q5
        cases q6 with
        | cons q7 q8 =>
          cases q8
          obtain ⟨b, xs, rfl, h1, h2, h3, _⟩ := new_lst e3 hnew e1 q7
          exact k a t b xs Hn e2 hHa (e3 _ _ e4) h1 h2 h3 hd
end
/-- a test of names as they stand -/
theorem peek_b {c : TF} {tr u : TS} {D : Ends} {H : Hp} {σ : L2.St} {env e' : En} {b : Bool} (S : SRel nil nil nil H H σ env) (hc : c env = some (b, e')) (h1 : b = true → ∀ H', Ex H H' → tr D σ H') (h2 : b = false → ∀ H', Ex H H' → u D σ H') : tIfS (tT c) tr u D σ H :=
  ⟨nil, nil, nil, H, env, b, e', S, hc, fun R' H5 S5 _ e5 => by
    cases b with
    | true => exact iteT (h1 rfl H5 e5)
    | false => exact iteF (h2 rfl H5 e5)⟩
theorem Ex.mut' {H1 H : Hp} {b : Addr} {o : HO} (e : Ex H1 H) (h : H1 b = none) : Ex H1 (upd H b o) := Ex.mut e h
end Fw
namespace Fw
open PySem PySem.Spec PyProof.Rows L2 Evl
/-! set(xs), xs a list of whole numbers: what sorted asks of a set -/
section
variable {P : Program} {w : World} {A : Around} {E : Value → Shared → Prop} {s : Shared}
/-- an empty set as set() makes it -/
abbrev setO0 (w : World) : Obj := { cls := .type "set", dict := none, data := .set #[] 0 (.fresh 0 0 (!w.params.followText "set-order")) }
/-- what the filling leaves -/
def Filled (w : World) (s : Shared) (ns : List Int) (s₂ : Shared) : Prop := ∃ h' tk c, s₂ = { s with heap := h', toks := tk } ∧ SetR w h' s.heap.objs.size (fun j => decide (j ∈ ns)) c ∧ c ≤ ns.length ∧ ∀ b o, s.heap.get? b = some o → h'.get? b = some o
set_option maxHeartbeats 3200000 in
theorem set_fill {l : Addr} {items : Array Value} {ns : List Int} (hh : A.handled = none) (hl : s.heap.IsList l items) (hit : IntsAre items.toList ns) (hb : ns.length + 1 < scanBound)
    (hT : Shared.TypeIs { s with heap := s.heap.push (setO0 w) } (.ref s.heap.objs.size) "set") :
    codeAny (model P w) A (.call (.builtin "set.__init__") ⟨[.ref s.heap.objs.size, .ref l], []⟩) (wants (fun r s₂ => r = .none ∧ Filled w s ns s₂) E) { s with heap := s.heap.push (setO0 w) } := by
  have hsz : items.size = ns.length := by
    have := hit.length
    rwa [Array.length_toList] at this
  have new : (s.heap.push (setO0 w)).get? s.heap.objs.size = some (setO0 w) := Heap.get?_push_size _ rfl
  have e1 : (s.heap.push (setO0 w)).objs.size = s.heap.objs.size + 1 := Heap.size_push ..
  refine codeAny_call_builtin F.called_set.init.plain F.entry_set_init (check_set_init_1 hT ?_)
  obtain ⟨ol, hol, hcl, nl, hdl⟩ := hl
  obtain ⟨ocls, odict, odata, oslots⟩ := ol
  simp only at hcl hdl
  subst hcl hdl
  have hol' : (s.heap.push (setO0 w)).get? l = some { cls := .type "list", dict := odict, data := .seq items nl, slots := oslots } := Heap.get?_push_of_some _ hol
  have q1 := F.sub_list_set
  have q2 := F.sub_list_frozenset
  have q3 : (Value.type "list" == Value.type "dict") = false := by decide
  have hl1 : (s.heap.push (setO0 w)).IsList l items := ⟨_, hol', rfl, nl, rfl⟩
  have hlt : l < s.heap.objs.size := Heap.lt_size hol
  unfold Builtin.«set.__init__» noKeywords Builtin.Frozenset.updateFrom
  generalize hPI : pyIter = PI
  wp_walk
  subst hPI
  refine wpAny_pyIter_list hl1 (wpAny_bind (wpAny_runValue ?_))
  have hne : l ≠ (s.heap.push (setO0 w)).objs.size := by rw [e1]; exact Nat.ne_of_lt (Nat.lt_succ_of_lt hlt)
  refine set_update_ints ((Walks.list (by simp [hh]) _ l hne items).toS) s.heap.objs.size (by simp only [List.mem_cons, List.not_mem_nil, or_false, not_or]; rw [e1]; exact ⟨Nat.ne_of_lt (Nat.lt_succ_self _), Nat.ne_of_gt hlt⟩) ns hsz hb (fun i v hv => ?_) (items.size - 0) 0 _ (by omega) (Nat.zero_le _) ⟨⟨_, Heap.get?_push_size _ rfl, rfl, rfl⟩, hl1.push _⟩
    ⟨0, Nat.le_refl 0, setR_new_at (Heap.get?_push_of_some _ new)⟩ ?_
  · have hi : i < ns.length := by rw [← hsz]; exact (Array.getElem?_eq_some_iff.mp hv).1
    obtain ⟨t, e⟩ := IntsAre.int_at hit i v (by rw [Array.getElem?_toList]; exact hv)
    exact ⟨ns[i], t, List.getElem?_eq_getElem hi, by rw [e, List.getD_eq_getElem?_getD, List.getElem?_eq_getElem hi] <;> rfl⟩
  · intro s' c hm hc hR
    obtain ⟨h', g2, d', tk', os'⟩ := s'
    obtain rfl : g2 = s.gens := hm.gens
    obtain rfl : d' = s.drawn := hm.drawn
    obtain rfl : os' = s.os := hm.os
    rw [hsz] at hc
    refine wpAny_pure (wpAny_pure ⟨rfl, h', tk', c, rfl, hR, hc, fun b o e => ?_⟩)
    have hb0 := Heap.lt_size e
    exact hm.heap b o (by simp only [List.mem_cons, List.not_mem_nil, or_false, not_or]; rw [e1]; exact ⟨Nat.ne_of_lt hb0, Nat.ne_of_lt (Nat.lt_succ_of_lt hb0)⟩) (Heap.get?_push_of_some _ (Heap.get?_push_of_some _ e))
set_option maxHeartbeats 3200000 in
theorem set_listI {l : Addr} {items : Array Value} {ns : List Int} {Q : Value → Shared → Prop} (hh : A.handled = none) (hl : s.heap.IsList l items) (hit : IntsAre items.toList ns) (hb : ns.length + 1 < scanBound)
    (h : ∀ (h' : Heap) (tk c : Nat), SetR w h' s.heap.objs.size (fun j => decide (j ∈ ns)) c → c ≤ ns.length → (∀ b o, s.heap.get? b = some o → h'.get? b = some o) → Q (.ref s.heap.objs.size) { s with heap := h', toks := tk }) :
    wpAny (model P w) A (call (.type "set") [.ref l]) Q E s := by
  obtain ⟨c0, tl, hmro⟩ := F.called_set.mro
  have hmade := F.called_set.made
  have hsub := F.called_set.sub
  have h1 := F.called_set.notType
  have h2 := F.called_set.canCreate
  have hct := F.typeCall_set_1 (.ref l)
  refine wpAny_call (codeAny_of_tree ?_)
  show wpAny _ _ (callAny (.type "set") _) _ _ _
  refine wpAny_pure ⟨Code.quiet_builtin _ (by decide +kernel), codeAny_builtin F.entry_type_call ?_⟩
  rw [Around.under_plain (weight_type_call_type "set" [.ref l] []) rfl]
  repeat (any_goals (first | assumption | wp_step))
  refine codeAny_mono (code_set_led1 (.ref l) (E := E) (Q₁ := fun o s₁ => o = .ref s.heap.objs.size ∧ s₁ = { s with heap := s.heap.push (setO0 w) }) ⟨rfl, rfl⟩) fun r s₁ hr => ?_
  match r, hr with
  | .error e, hr => exact hr
  | .ok .next, hr => exact hr.elim
  | .ok .brk, hr => exact hr.elim
  | .ok .cont, hr => exact hr.elim
  | .ok (.ret o), hr =>
    obtain ⟨rfl, rfl⟩ := hr
    have new : (s.heap.push (setO0 w)).get? s.heap.objs.size = some (setO0 w) := Heap.get?_push_size _ rfl
    have hT : Shared.TypeIs { s with heap := s.heap.push (setO0 w) } (.ref s.heap.objs.size) "set" := ⟨_, new, rfl⟩
    have hli := F.called_set.init.lookup
    have hbi := F.called_set.init.bind (.ref s.heap.objs.size)
    repeat (any_goals (first | assumption | wp_step))
    refine codeAny_mono (set_fill (E := E) (by simp [hh]) hl hit hb hT) fun r s₂ hr => ?_
    match r, hr with
    | .error e, hr => exact hr
    | .ok .next, hr => exact hr.elim
    | .ok .brk, hr => exact hr.elim
    | .ok .cont, hr => exact hr.elim
    | .ok (.ret o), hr =>
      obtain ⟨rfl, h', tk, c, rfl, hR, hc, hk⟩ := hr
      repeat (any_goals (first | assumption | wp_step))
      exact h h' tk c hR hc hk
end
def rSetI (K : PySem.W.Frag) (w : World) : List V → Hp → VK → Prop := fun xs H Q => ∃ (l : Addr) (ns : List Int), xs = [.ref l] ∧ SqL K H l (ns.map V.int) ∧ ns.length ≤ 1000 ∧
  ∀ p c, H p = none → c ≤ ns.length → Q (.ref p) (upd H p (SetO w p (fun j => decide (j ∈ ns)) c))
section
variable {X : Cx}
theorem cr_setI (hc : X.calm = true) : CallR X (.type "set") (rSetI X.K X.w) := by
  intro pins s σ H xs us Q I r h
  obtain ⟨l, ns, rfl, hq, hl, q⟩ := h
  rw [Vals.ref1 r]
  obtain ⟨its, rv, pl, hz⟩ := I.list hq
  refine set_listI (I.ok.hd hc) pl.isList (by simpa using rv.ints) (by unfold scanBound; omega) fun h' tk c hR hcn hk => ?_
  exact ⟨.ref _, upd H s.heap.objs.size (SetO X.w s.heap.objs.size (fun j => decide (j ∈ ns)) c), I.laid (t' := tk) (fun b u e => hk b u e) (Nat.le_refl _) (setO_new hR), rfl, q _ _ (I.hok.fresh (Nat.le_refl _)) hcn⟩
theorem rise_same : ∀ {a b : List Int}, a.Pairwise (· < ·) → b.Pairwise (· < ·) → (∀ k : Int, k ∈ a ↔ k ∈ b) → a = b
  | [], [], _, _, _ => rfl
  | [], y :: b, _, _, h => absurd ((h y).mpr List.mem_cons_self) List.not_mem_nil
  | x :: a, [], _, _, h => absurd ((h x).mp List.mem_cons_self) List.not_mem_nil
  | x :: a, y :: b, h1, h2, h => by
    obtain ⟨p1, p2⟩ := List.pairwise_cons.mp h1
    obtain ⟨q1, q2⟩ := List.pairwise_cons.mp h2
    have e : x = y := by
      rcases List.mem_cons.mp ((h x).mp List.mem_cons_self) with e | e
      · exact e
      · have := q1 x e
        rcases List.mem_cons.mp ((h y).mpr List.mem_cons_self) with e2 | e2
        · exact e2.symm
        · have := p1 y e2
          omega
    subst e
    rw [rise_same p2 q2 fun k => ⟨fun hk => by
      rcases List.mem_cons.mp ((h k).mp (List.mem_cons_of_mem _ hk)) with e | e
      · subst e
        exact absurd (p1 k hk) (Int.lt_irrefl k)
      · exact e, fun hk => by
      rcases List.mem_cons.mp ((h k).mpr (List.mem_cons_of_mem _ hk)) with e | e
      · subst e
        exact absurd (q1 k hk) (Int.lt_irrefl k)
      · exact e⟩]
def risesB : List Int → Bool
  | [] => true
  | x :: r => r.all (fun y => decide (x < y)) && risesB r
theorem risesB_ok : ∀ {ns : List Int}, risesB ns = true ↔ ns.Pairwise (· < ·)
  | [] => ⟨fun _ => .nil, fun _ => rfl⟩
  | x :: r => by
    rw [List.pairwise_cons, ← risesB_ok (ns := r)]
    show ((r.all fun y => decide (x < y)) && risesB r) = true ↔ _
    rw [Bool.and_eq_true, List.all_eq_true]
    exact ⟨fun h => ⟨fun y hy => of_decide_eq_true (h.1 y hy), h.2⟩, fun h => ⟨fun y hy => decide_eq_true (h.1 y hy), h.2⟩⟩
def eSortSet (fa : WF) : EF := fun env => match fa env with
  | some (.list ds, e1) => (match intsOf ds with
    | some ns => if ns.length < 60 && risesB ns then some (.list ds, true, e1) else none
    | none => none)
  | _ => none
theorem v_sortset {fa : WF} {env e1 : En} {ns : List Int} (h : fa env = some (.list (ns.map .int), e1)) (hl : ns.length < 60) (hr : ns.Pairwise (· < ·)) : eSortSet fa env = some (.list (ns.map .int), true, e1) := by
  unfold eSortSet
  rw [h]
  simp only [intsOf_map]
  rw [if_pos (by rw [Bool.and_eq_true]; exact ⟨decide_eq_true hl, risesB_ok.mpr hr⟩)]
theorem ints_dq {R : Hp} : ∀ (ns : List Int), DqAll R (ns.map V.int) (ns.map PyData.int)
  | [] => .nil
  | n :: ns => .cons (.int n) (ints_dq ns)
/-- sorted(set(xs)), xs rising -/
theorem qe_sortSet {a : Expr} {fa : WF} {p p2 pos pos2 : Pos} (hc : X.calm = true) (hg : Gl X "sorted") (hm : X.mg "sorted" = none) (hg2 : Gl X "set") (hm2 : X.mg "set" = none) (ha : PE X a (tW fa))
    (n1 : starEach [a] X.env = (false, eval a X.env) :: starEach [] X.env := by rfl) (n2 : (backTo pos2 (starEach [] X.env)).any (·.1) = false := by rfl)
    (n3 : starEach [.Call (.Name "set" p2) [a] [] pos2] X.env = (false, eval (.Call (.Name "set" p2) [a] [] pos2) X.env) :: starEach [] X.env := by rfl) (n4 : (backTo pos (starEach [] X.env)).any (·.1) = false := by rfl) :
    PE X (.Call (.Name "sorted" p) [.Call (.Name "set" p2) [a] [] pos2] [] pos) (tE (eSortSet fa)) :=
  PE.imp (pe_callB (cr_sortedSet hc) hg hm (by decide +kernel) (pa_cons (pe_callTy (cr_setI hc) hg2 hm2 (by decide +kernel) (pa_cons ha pa_nil n1) (by decide) (by decide) n1 n2) pa_nil n3) (by decide) (by decide) n3 n4) fun σ H Q q => by
    obtain ⟨B, H0, R0, R, env, d, fr, env', S, hf, k⟩ := q
    unfold eSortSet at hf
    split at hf
    · rename_i ds e1 h1
      split at hf
      · rename_i ns hn
        split at hf
        · rename_i hz
          rw [Bool.and_eq_true] at hz
          cases hf
          have hl := of_decide_eq_true hz.1
          have hr := risesB_ok.mp hz.2
          refine ⟨B, H0, R0, R, env, _, _, S, h1, fun v R1 H1 S1 i1 j1 t1 => ?_⟩
          obtain ⟨a, vs, rfl, g1, g2⟩ := top_list t1
          rw [intsOf_eq hn] at g2
          have ev := dpa_ints g2
          subst ev
          refine ⟨a, ns, rfl, .inl (.inl g1), by omega, fun p1 c hp1 hcn => ⟨p1, _, c, rfl, upd_same, by omega, fun ms p2 hs hmem hlen hp2 => ?_⟩⟩
          have e : ms = ns := rise_same hs hr fun k => (hmem k).trans decide_eq_true_iff
          subst e
          have S2 := S1.grow (Ex.new (o := SetO X.w p1 (fun j => decide (j ∈ ms)) c) hp1)
          rw [intsOf_eq hn] at k
          exact Cont.nowL S2.rh (S2.cont fun v R' H' S' e1 e2 r => k v R' H' S' (i1.trans e1) ((j1.trans (Ex.new hp1)).trans e2) r) hp2 (ints_dq ms)
        · cases hf
      · cases hf
    · cases hf
end
end Fw
namespace Fw
open PySem PySem.Spec PyProof.Rows L2 Evl
/-! xs < ys, two lists of whole numbers -/
def lxI (ns ms : List Int) : Bool := SeqAt.firstLt (fun j => decide (ns.getD j 0 = ms.getD j 0)) (fun j => decide (ns.getD j 0 < ms.getD j 0)) (decide (ns.length < ms.length)) (List.range (min ns.length ms.length))
def rLtL (K : PySem.W.Frag) : R2 := fun x y H Q => ∃ (a b : Addr) (ns ms : List Int), x = .ref a ∧ y = .ref b ∧ SqL K H a (ns.map V.int) ∧ SqL K H b (ms.map V.int) ∧ Q (.bl (lxI ns ms)) H
theorem op_ltL {X : Cx} (hu : X.A.units < cLine) : OpR X (compareOp .Lt) (rLtL X.K) := by
  intro pins s σ H x y v u Q I rx ry h
  obtain ⟨a, b, ns, ms, rfl, rfl, ha, hb, q⟩ := h
  cases rx
  cases ry
  obtain ⟨its, r1, p1, _⟩ := I.list ha
  obtain ⟨its2, r2, p2, _⟩ := I.list hb
  have i1 : IntsAre its ns := r1.ints
  have i2 : IntsAre its2 ms := r2.ints
  have z1 : its.toArray.size = ns.length := by rw [List.size_toArray]; exact i1.length
  have z2 : its2.toArray.size = ms.length := by rw [List.size_toArray]; exact i2.length
  have at1 : ∀ j (h1 : j < its.toArray.size), ∃ t, its.toArray[j] = .int (ns.getD j 0) t := fun j h1 => IntsAre.int_at i1 _ _ (by simp at h1; simp [h1])
  have at2 : ∀ j (h1 : j < its2.toArray.size), ∃ t, its2.toArray[j] = .int (ms.getD j 0) t := fun j h1 => IntsAre.int_at i2 _ _ (by simp at h1; simp [h1])
  have L := SeqAt.RcLt.lists (A := X.A) (s := s) (e := fun j => decide (ns.getD j 0 = ms.getD j 0)) (r := fun j => decide (ns.getD j 0 < ms.getD j 0)) p1.isList p2.isList hu (fun j h1 h2 => by
    obtain ⟨t, et⟩ := at1 j h1
    obtain ⟨t', et'⟩ := at2 j h2
    rw [et, et', ← show (ns.getD j 0 == ms.getD j 0) = decide (ns.getD j 0 = ms.getD j 0) from by
      by_cases q : ns.getD j 0 = ms.getD j 0
      · rw [decide_eq_true q]; exact beq_iff_eq.mpr q
      · rw [decide_eq_false q]; exact beq_eq_false_iff_ne.mpr q]
    exact SeqAt.EqAt.int_int _ _ _ _) (fun j h1 h2 _ => by
    obtain ⟨t, et⟩ := at1 j h1
    obtain ⟨t', et'⟩ := at2 j h2
    rw [et, et']
    exact fun _ _ _ _ h => PyProof.Rows.lt_int h)
  rw [z1, z2] at L
  have z : wpAny (model X.prog X.w) X.A (compareOp .Lt (.ref a) (.ref b)) (EP X pins σ Q) X.xe s := L X.prog X.w X.xe (EP X pins σ Q) ⟨.bl _, H, I, rfl, q⟩
  exact z
def gLtL (x y : PyData) : Option (PyData × Bool) := match x, y with
  | .list ds, .list es => (intsOf ds).bind fun ns => (intsOf es).map fun ms => (.bool (lxI ns ms), false)
  | _, _ => none
theorem gLtL_ok {K : PySem.W.Frag} : OpD (rLtL K) gLtL := by
  intro R H x y dx dy d fr Q e tx ty hg k
  unfold gLtL at hg
  split at hg
  · rename_i ds es
    cases hn : intsOf ds with
    | none => rw [hn] at hg; cases hg
    | some ns =>
      cases hm : intsOf es with
      | none => rw [hn, hm] at hg; cases hg
      | some ms =>
        rw [hn, hm] at hg
        cases hg
        obtain ⟨a, vs, rfl, h1, h2⟩ := top_list tx
        obtain ⟨b, ws, rfl, h3, h4⟩ := top_list ty
        rw [intsOf_eq hn] at h2
        rw [intsOf_eq hm] at h4
        have e1 := dpa_ints h2
        have e2 := dpa_ints h4
        subst e1 e2
        exact ⟨a, b, ns, ms, rfl, rfl, .inl (.inl h1), .inl (.inl h3), k.now e (.bl _)⟩
  · cases hg
theorem g_ltL (ns ms : List Int) : gLtL (.list (ns.map .int)) (.list (ms.map .int)) = some (.bool (lxI ns ms), false) := by
  unfold gLtL
  simp only [intsOf_map, Option.bind_some, Option.map_some]
theorem firstLt_map {e r : Nat → Bool} {fin : Bool} (f : Nat → Nat) : ∀ l : List Nat, SeqAt.firstLt e r fin (l.map f) = SeqAt.firstLt (fun j => e (f j)) (fun j => r (f j)) fin l
  | [] => rfl
  | j :: t => by
    show (if e (f j) = true then SeqAt.firstLt e r fin (t.map f) else r (f j)) = if e (f j) = true then SeqAt.firstLt (fun j => e (f j)) (fun j => r (f j)) fin t else r (f j)
    rw [firstLt_map f t]
theorem lxI_nil {m : Int} {ms : List Int} : lxI [] (m :: ms) = true := by
  unfold lxI
  have : min ([] : List Int).length (m :: ms).length = 0 := Nat.zero_min _
  rw [this]
  exact decide_eq_true (Nat.succ_pos _)
theorem lxI_nil' {ns : List Int} : lxI ns [] = false := by
  unfold lxI
  have : min ns.length ([] : List Int).length = 0 := Nat.min_zero _
  rw [this]
  exact decide_eq_false (Nat.not_lt_zero _)
theorem lxI_cons {n m : Int} {ns ms : List Int} : lxI (n :: ns) (m :: ms) = if n = m then lxI ns ms else decide (n < m) := by
  unfold lxI
  have : min (n :: ns).length (m :: ms).length = min ns.length ms.length + 1 := Nat.succ_min_succ _ _
  rw [this, List.range_succ_eq_map]
  show (if decide (n = m) = true then SeqAt.firstLt _ _ _ ((List.range _).map Nat.succ) else decide (n < m)) = _
  rw [firstLt_map]
  by_cases q : n = m
  · rw [if_pos (decide_eq_true q), if_pos q]
    have : decide ((n :: ns).length < (m :: ms).length) = decide (ns.length < ms.length) := decide_eq_decide.mpr (by simp)
    rw [this]
    rfl
  · rw [if_neg (by rw [decide_eq_true_eq]; exact q), if_neg q]
/-! tuple(xs) -/
def gTuple : List PyData → Option (PyData × Bool)
  | [.list ds] => some (.tuple ds, false)
  | _ => none
theorem gTuple_ok {K : PySem.W.Frag} : CallD (fun xs H Q => ∃ p ys, xs = [.ref p] ∧ ((SqL K H p ys ∧ ∀ l, H l = none → Q (.ref l) (upd H l (.tup ys))) ∨ (SqT K H p ys ∧ Q (.ref p) H))) gTuple := by
  intro R H vs ds d fr Q e t hg k
  unfold gTuple at hg
  split at hg
  · rename_i es
    cases hg
    obtain ⟨v, rfl, t1⟩ := tops1 t
    obtain ⟨a, vs, rfl, h1, h2⟩ := top_list t1
    exact ⟨a, vs, rfl, .inl ⟨.inl (.inl h1), fun l hl => k.nowT e hl h2⟩⟩
  · cases hg
end Fw
namespace Fw
open PySem PySem.Spec PyProof.Rows L2 Evl
/-! sorted(xs), xs a list of pairs of whole numbers -/
def pairI (p : Int × Int) : PyData := .tuple [.int p.1, .int p.2]
def pairsOf : List PyData → Option (List (Int × Int))
  | [] => some []
  | .tuple [.int a, .int b] :: r => (pairsOf r).map ((a, b) :: ·)
  | _ :: _ => none
theorem pairsOf_map (ps : List (Int × Int)) : pairsOf (ps.map pairI) = some ps := by
  induction ps with
  | nil => rfl
  | cons p r ih =>
    show (pairsOf (r.map pairI)).map ((p.1, p.2) :: ·) = _
    rw [ih]
    rfl
theorem pairsOf_eq : ∀ {ds : List PyData} {ps : List (Int × Int)}, pairsOf ds = some ps → ds = ps.map pairI
  | [], _, h => by cases h; rfl
  | d :: r, ps, h => by
    unfold pairsOf at h
    split at h
    · rename_i e
      exact (nomatch e)
    · rename_i a b r' e
      cases e
      cases hr : pairsOf r with
      | none => rw [hr] at h; cases h
      | some qs =>
        rw [hr] at h
        cases h
        rw [pairsOf_eq hr]
        rfl
    · cases h
def codeP (p : Int × Int) : Int := TS.code 4096 [p.1, p.2]
def bdP (p : Int × Int) : Bool := decide (0 ≤ p.1) && decide (p.1 < 4096) && (decide (0 ≤ p.2) && decide (p.2 < 4096))
def sortP (ps : List (Int × Int)) : List (Int × Int) := ps.mergeSort fun a b => decide (codeP a ≤ codeP b)
def gSortP : List PyData → Option (PyData × Bool)
  | [.list ds] => (pairsOf ds).bind fun ps => if ps.length < 64 && ps.all bdP then some (.list ((sortP ps).map pairI), true) else none
  | _ => none
theorem sortP_perm (ps : List (Int × Int)) : (sortP ps).Perm ps := List.mergeSort_perm ..
theorem bd_of {p : Int × Int} (h : bdP p = true) : TS.Bd 4096 [p.1, p.2] := by
  unfold bdP at h
  simp only [Bool.and_eq_true, decide_eq_true_eq] at h
  intro m hm
  rcases List.mem_cons.mp hm with rfl | hm
  · exact h.1
  · rw [List.mem_singleton.mp hm]; exact h.2
theorem sortP_sorted (ps : List (Int × Int)) : (sortP ps).Pairwise fun a b => codeP a ≤ codeP b := by
  have := List.pairwise_mergeSort (le := fun a b : Int × Int => decide (codeP a ≤ codeP b)) (fun a b c h1 h2 => by
    rw [decide_eq_true_eq] at h1 h2 ⊢
    exact Int.le_trans h1 h2) (fun a b => by
    rw [Bool.or_eq_true, decide_eq_true_eq, decide_eq_true_eq]
    exact Int.le_total _ _) ps
  exact this.imp fun h => of_decide_eq_true h
theorem perm_dq {R : Hp} : ∀ {ys xs : List V} {ps : List (Int × Int)}, ys.Perm xs → DqAll R xs (ps.map pairI) → ∃ qs : List (Int × Int), qs.Perm ps ∧ DqAll R ys (qs.map pairI) := by
  intro ys xs ps h
  induction h generalizing ps with
  | nil => intro h; exact ⟨ps, .refl _, h⟩
  | @cons x l1 l2 _ ih =>
    intro h
    cases ps with
    | nil => cases h
    | cons p ps =>
      cases h with
      | cons a b =>
        obtain ⟨qs, h1, h2⟩ := ih b
        exact ⟨p :: qs, h1.cons p, .cons a h2⟩
  | @swap x y l =>
    intro h
    cases ps with
    | nil => cases h
    | cons p ps =>
      cases ps with
      | nil =>
        cases h with
        | cons a b => cases b
      | cons p2 ps =>
        cases h with
        | cons a b =>
          cases b with
          | cons b c => exact ⟨p2 :: p :: ps, .swap p p2 ps, .cons b (.cons a c)⟩
  | trans _ _ ih1 ih2 =>
    intro h
    obtain ⟨qs, h1, h2⟩ := ih2 h
    obtain ⟨rs, h3, h4⟩ := ih1 h2
    exact ⟨rs, h3.trans h1, h4⟩
theorem tupI_of {K : PySem.W.Frag} {R H : Hp} (e : Ex R H) {v : V} {p : Int × Int} (h : Dq R v (pairI p)) : TupI K H v [p.1, p.2] := by
  cases h with
  | @tup a xs _ e2 q =>
    have ev := dpa_ints (ns := [p.1, p.2]) q
    subst ev
    exact ⟨a, rfl, .inl (.inl (e _ _ e2))⟩
theorem pw_dq {K : PySem.W.Frag} {R H : Hp} (e : Ex R H) : ∀ {ys : List V} {qs : List (Int × Int)}, DqAll R ys (qs.map pairI) → ys.Pairwise (fun x y => ∀ n m, TupI K H x n → TupI K H y m → TS.code 4096 n ≤ TS.code 4096 m) → qs.Pairwise fun a b => codeP a ≤ codeP b
  | _, [], _, _ => .nil
  | [], _ :: _, h, _ => by cases h
  | y :: ys, q :: qs, h, hp => by
    cases h with
    | cons a b =>
      obtain ⟨p1, p2⟩ := List.pairwise_cons.mp hp
      refine List.pairwise_cons.mpr ⟨fun r hr => ?_, pw_dq e b p2⟩
      obtain ⟨i, hi, rfl⟩ := List.mem_iff_getElem.mp hr
      obtain ⟨d, hd1, hd2⟩ := dpa_get b (i := i) (d := pairI qs[i]) (by rw [List.getElem?_map, List.getElem?_eq_getElem hi]; rfl)
      exact p1 d (List.mem_of_getElem? hd1) _ _ (tupI_of e a) (tupI_of e hd2)
theorem anti_same {l m : List (Int × Int)} (hp : l.Perm m) (hb : ∀ p ∈ l, bdP p = true) (h1 : l.Pairwise fun a b => codeP a ≤ codeP b) (h2 : m.Pairwise fun a b => codeP a ≤ codeP b) : l = m := by
  refine List.Perm.eq_of_pairwise (fun a b ha hb' x y => ?_) h1 h2 hp
  have b1 := bd_of (hb a ha)
  have b2 := bd_of (hb b (hp.mem_iff.mpr hb'))
  have c1 := L2.code_lex b1 b2 x
  have c2 := L2.code_lex b2 b1 y
  have : a.1 = b.1 ∧ a.2 = b.2 := by omega
  exact Prod.ext this.1 this.2
theorem gSortP_ok {K : PySem.W.Frag} : CallD (rSortU K 2 4096) gSortP := by
  intro R H vs ds d fr Q e t hg k
  unfold gSortP at hg
  split at hg
  · rename_i es
    cases hn : pairsOf es with
    | none => rw [hn] at hg; cases hg
    | some ps =>
      rw [hn] at hg
      simp only [Option.bind_some] at hg
      split at hg
      · rename_i hz
        cases hg
        rw [Bool.and_eq_true, List.all_eq_true] at hz
        obtain ⟨v, rfl, t1⟩ := tops1 t
        obtain ⟨a, vs, rfl, h1, h2⟩ := top_list t1
        rw [pairsOf_eq hn] at h2
        have hl : vs.length = ps.length := by rw [dpa_len h2, List.length_map]
        refine ⟨a, vs, rfl, .inl (.inl h1), by have := of_decide_eq_true hz.1; omega, fun x hx => ?_, fun ys p hperm hpw hp => ?_⟩
        · obtain ⟨i, hi, rfl⟩ := List.mem_iff_getElem.mp hx
          have hi2 : i < ps.length := by omega
          obtain ⟨d, hd1, hd2⟩ := dpa_get h2 (i := i) (d := pairI ps[i]) (by rw [List.getElem?_map, List.getElem?_eq_getElem hi2]; rfl)
          rw [List.getElem?_eq_getElem hi] at hd1
          cases hd1
          exact ⟨_, tupI_of e hd2, rfl, bd_of (hz.2 _ (List.getElem_mem hi2))⟩
        · obtain ⟨qs, q1, q2⟩ := perm_dq hperm h2
          have hq := anti_same (q1.trans (sortP_perm ps).symm) (fun p hp => hz.2 p (q1.mem_iff.mp hp)) (pw_dq e q2 hpw) (sortP_sorted ps)
          rw [hq] at q2
          exact k.nowL e hp q2
      · cases hg
  · cases hg
end Fw
namespace Cmb
open PySem PySem.Spec
/-! itertools.combinations: what the tables say of it -/
theorem mroC : mroOf (.type "itertools.combinations") = pure [.type "itertools.combinations", .type "object"] := by rw [mroOf_type]; kernel_rfl
theorem newC : typeLookup (.type "itertools.combinations") "__new__" = pure (some (.builtin "itertools.combinations.__new__")) := by rw [typeLookup_type, builtinLookup_eq_fast]; kernel_rfl
theorem subC : isSubtype (.type "itertools.combinations") (.type "itertools.combinations") = pure true := by rw [isSubtype_type]; kernel_rfl
theorem initC : Slot "itertools.combinations" "__init__" "object.__init__" :=
  .of (owner := "object") (n := "__init__") (by rw [typeLookup_type, builtinLookup_eq_fast]; kernel_rfl) (by decide +kernel) (by decide +kernel) (by decide +kernel)
    (by first | exact .inl (by decide +kernel) | exact .inr (by decide +kernel)) (by rw [isSubtype_type]; kernel_rfl)
theorem iterC : Slot "itertools.combinations" "__iter__" "itertools.combinations.__iter__" :=
  .of (owner := "itertools.combinations") (n := "__iter__") (by rw [typeLookup_type, builtinLookup_eq_fast]; kernel_rfl) (by decide +kernel) (by decide +kernel) (by decide +kernel)
    (by first | exact .inl (by decide +kernel) | exact .inr (by decide +kernel)) subC
theorem nextC : Slot "itertools.combinations" "__next__" "itertools.combinations.__next__" :=
  .of (owner := "itertools.combinations") (n := "__next__") (by rw [typeLookup_type, builtinLookup_eq_fast]; kernel_rfl) (by decide +kernel) (by decide +kernel) (by decide +kernel)
    (by first | exact .inl (by decide +kernel) | exact .inr (by decide +kernel)) subC
theorem calledC : TypeCalled "itertools.combinations" "itertools.combinations.__new__" "object.__init__" :=
  ⟨by decide +kernel, by decide +kernel, ⟨_, _, mroC⟩, madeBy_type mroC newC (by decide +kernel), by decide +kernel, subC, initC⟩
theorem checkC (a b : Value) : checkTypeCall "itertools.combinations" ⟨[a, b], []⟩ = pure () := by kernel_rfl
theorem checkNewC (a b : Value) : checkBuiltinCall "itertools.combinations.__new__" ⟨[.type "itertools.combinations", a, b], []⟩ = pure () := by kernel_rfl
theorem entryNewC : entryFor table "itertools.combinations.__new__" = some Builtin.«itertools.combinations.__new__» := entryFor_of_tree (by kernel_rfl)
theorem entryNextC : entryFor table "itertools.combinations.__next__" = some Builtin.«itertools.combinations.__next__» := entryFor_of_tree (by kernel_rfl)
theorem entryIterC : entryFor table "itertools.combinations.__iter__" = some Builtin.«dict_keyiterator.__iter__» :=
  entryFor_alias (id' := "dict_keyiterator.__iter__") (by kernel_rfl) (by first | rfl | decide +kernel | (unfold String.splitOn; simp +decide [String.splitOnAux])) (by decide +kernel) (by kernel_rfl)
theorem noDictC : typeHasDict (.type "itertools.combinations") = false := by decide +kernel
theorem noCloseC : typeLookup (.type "itertools.combinations") "close" = pure none := by rw [typeLookup_type, builtinLookup_eq_fast]; kernel_rfl
end Cmb
namespace Cmb
open PySem PySem.Spec
theorem ownerC : Manifest.owners.lookup (String.ofList ['s', 'n', 'o', 'i', 't', 'a', 'n', 'i', 'b', 'm', 'o', 'c', '.', 's', 'l', 'o', 'o', 't', 'r', 'e', 't', 'i'].reverse) = some Manifest.sig_itertools_combinations := by kernel_rfl
theorem argsIterC (a : Value) : argsOk "itertools.combinations.__iter__" ⟨[a], []⟩ := by
  unfold argsOk; rw [signature?_of (id := "itertools.combinations.__iter__") (n := ['_', '_', 'r', 'e', 't', 'i', '_', '_']) (o := ['s', 'n', 'o', 'i', 't', 'a', 'n', 'i', 'b', 'm', 'o', 'c', '.', 's', 'l', 'o', 'o', 't', 'r', 'e', 't', 'i']) (by kernel_rfl) ownerC]; kernel_rfl
theorem argsNextC (a : Value) : argsOk "itertools.combinations.__next__" ⟨[a], []⟩ := by
  unfold argsOk; rw [signature?_of (id := "itertools.combinations.__next__") (n := ['_', '_', 't', 'x', 'e', 'n', '_', '_']) (o := ['s', 'n', 'o', 'i', 't', 'a', 'n', 'i', 'b', 'm', 'o', 'c', '.', 's', 'l', 'o', 'o', 't', 'r', 'e', 't', 'i']) (by kernel_rfl) ownerC]; kernel_rfl
/-- a walk over the lists of places in the tuple at p: st 0 before the first, 1 amid, 2 behind the last; the last told; the places -/
abbrev IsCmb (h : Heap) (it p : Addr) (st : Int) (last : Value) (ix : List Nat) : Prop :=
  h.get? it = some { cls := .type "itertools.combinations", dict := none, data := .fields ([.ref p, .int st 0, last] ++ ix.map fun (i : Nat) => Value.int i 0).toArray, slots := #[] }
section
variable {prog : Program} {w : World} {A : Around} {E : Value → Shared → Prop} {s : Shared}
theorem iter_cmb {it p : Addr} {st : Int} {last : Value} {ix : List Nat} {Q : Value → Shared → Prop} (hit : IsCmb s.heap it p st last ix) (h : Q (.ref it) s) : wpAny (model prog w) A (pyIter (.ref it)) Q E s := by
  have hT : s.TypeIs (.ref it) "itertools.combinations" := ⟨_, hit, rfl⟩
  refine wpAny_pyIter_slot hT iterC (wpAny_call_entry iterC hT entryIterC ?_ (argsIterC _))
  show wpAny _ _ (ret (.ref it)) _ _ s
  exact wpAny_pure ⟨_, rfl, "itertools.combinations", _, hT, nextC.lookup, h⟩
theorem places_of {p : Addr} {st : Int} {last : Value} {ix : List Nat} {f : Value → Nat} (hf : ∀ i : Nat, f (.int i 0) = i) : (([.ref p, .int st 0, last] ++ ix.map fun (i : Nat) => Value.int i 0).toArray.toList.drop 3).map f = ix := by
  show (ix.map fun (i : Nat) => Value.int i 0).map f = ix
  rw [List.map_map]
  exact (List.map_congr_left fun i _ => hf i).trans (List.map_id _)
/-- the first one is told -/
theorem next_first {it p : Addr} {ix : List Nat} {items : Array Value} {last : Value} {Q : Option Value → Shared → Prop} (hit : IsCmb s.heap it p 0 last ix) (hp : s.heap.IsTuple p items) (hne : it ≠ p) (hsz : ix.length ≤ sizeLine)
    (hQ : ∀ h', IsCmb h' it p 1 (.ref s.heap.objs.size) ix → h'.get? s.heap.objs.size = some { cls := .type "tuple", data := .seq (ix.map fun i => items.getD i .none).toArray } → (∀ b o, b ≠ it → s.heap.get? b = some o → h'.get? b = some o) → Q (some (.ref s.heap.objs.size)) { s with heap := h' }) :
    wpAny (model prog w) A (pyNext (.ref it)) Q E s := by
  have hT : s.TypeIs (.ref it) "itertools.combinations" := ⟨_, hit, rfl⟩
  unfold pyNext
  refine wpAny_bind (wpAny_attempt (wpAny_callSpecial?_slot (name := Str.ofString "__next__") hT nextC (wpAny_call_entry nextC hT entryNextC ?_ (argsNextC _))))
  show wpAny _ _ (field (.ref it) 0 >>= _) _ _ s
  refine wpAny_bind (wpAny_field hit rfl (x := .ref p) rfl ?_)
  show wpAny _ _ (Builtin.Itertools.itNumbersFrom (.ref it) 3 >>= _) _ _ _
  refine wpAny_bind ?_
  unfold Builtin.Itertools.itNumbersFrom
  refine wpAny_bind (wpAny_load hit ?_)
  refine wpAny_pure ?_
  rw [places_of (fun i => Int.toNat_natCast i)]
  show wpAny _ _ (Builtin.Itertools.itIntField (.ref it) 1 >>= _) _ _ _
  refine wpAny_bind ?_
  unfold Builtin.Itertools.itIntField
  refine wpAny_bind (wpAny_field hit rfl (x := .int 0 0) rfl (wpAny_pure ?_))
  show wpAny _ _ (setField (.ref it) 1 (rawInt 1) >>= _) _ _ _
  refine wpAny_bind (wpAny_setField hit rfl (by simp) ?_)
  have hit1 : IsCmb (s.heap.update it (Obj.mapFields fun x => x.setIfInBounds 1 (rawInt 1))) it p 1 last ix := Heap.get?_update_self _ hit rfl
  have sb1 := Heap.SameBut.update s.heap it (Obj.mapFields fun x => x.setIfInBounds 1 (rawInt 1))
  obtain ⟨⟨oc, od, oda, osl⟩, hp0, hpc, pn, hpd⟩ := hp
  simp only at hpc hpd
  subst hpc hpd
  have hp1 := (sb1.2 p (Ne.symm hne)).trans hp0
  have hz : (s.heap.update it (Obj.mapFields fun x => x.setIfInBounds 1 (rawInt 1))).objs.size = s.heap.objs.size := by simp [Heap.update]
  generalize s.heap.update it (Obj.mapFields fun x => x.setIfInBounds 1 (rawInt 1)) = h1 at *
  refine wpAny_bind ?_
  show wpAny _ _ (Builtin.Itertools.itPoolItems (.ref p) >>= _) _ _ _
  refine wpAny_bind ?_
  unfold Builtin.Itertools.itPoolItems
  refine wpAny_bind (wpAny_seqItems hp1 rfl (wpAny_pure ?_))
  refine wpAny_newTuple ?_ (by rw [List.length_map]; exact hsz)
  show wpAny _ _ (field (.ref it) 2 >>= _) _ _ _
  dsimp only
  rw [hz]
  have hit2 : IsCmb (h1.push { cls := .type "tuple", data := .seq (ix.map fun i => items.getD i .none).toArray }) it p 1 last ix := Heap.get?_push_of_some _ hit1
  have new2 : (h1.push { cls := .type "tuple", data := .seq (ix.map fun i => items.getD i .none).toArray }).get? s.heap.objs.size = some { cls := .type "tuple", data := .seq (ix.map fun i => items.getD i .none).toArray } := by
    rw [← hz]
    exact Heap.get?_push_size _ rfl
  have k2 : ∀ b o, h1.get? b = some o → (h1.push { cls := .type "tuple", data := .seq (ix.map fun i => items.getD i .none).toArray }).get? b = some o := fun b o q => Heap.get?_push_of_some _ q
  have hne2 : s.heap.objs.size ≠ it := Nat.ne_of_gt (Heap.lt_size hit)
  generalize h1.push { cls := .type "tuple", data := .seq (ix.map fun i => items.getD i .none).toArray } = h2 at *
  refine wpAny_bind (wpAny_field hit2 rfl (x := last) rfl ?_)
  refine wpAny_bind (wpAny_setField hit2 rfl (by simp) ?_)
  refine wpAny_bind (wpAny_letGo ?_)
  refine wpAny_pure ⟨_, rfl, wpAny_pure ?_⟩
  have sb2 := Heap.SameBut.update h2 it (Obj.mapFields fun x => x.setIfInBounds 2 (.ref s.heap.objs.size))
  exact hQ _ (Heap.get?_update_self _ hit2 rfl) ((sb2.2 _ hne2).trans new2) fun b o hb q => (sb2.2 b hb).trans (k2 b o ((sb1.2 b hb).trans q))
end
end Cmb
namespace Cmb
open PySem PySem.Spec
theorem find_last {p : Nat → Bool} : ∀ {r i : Nat}, i < r → p i = true → (∀ j, i < j → j < r → p j = false) → (List.range r).reverse.find? p = some i
  | 0, _, h, _, _ => absurd h (Nat.not_lt_zero _)
  | r + 1, i, h, hi, hj => by
    rw [List.range_succ, List.reverse_append, List.reverse_singleton, List.singleton_append, List.find?_cons]
    by_cases e : i = r
    · subst e
      rw [hi]
    · rw [hj r (by omega) (Nat.lt_succ_self r)]
      exact find_last (by omega) hi fun j a b => hj j a (by omega)
theorem find_no {p : Nat → Bool} {r : Nat} (h : ∀ j, j < r → p j = false) : (List.range r).reverse.find? p = none :=
  List.find?_eq_none.mpr fun x hx => by
    have := h x (List.mem_range.mp (List.mem_reverse.mp hx))
    rw [this]
    exact Bool.false_ne_true
/-- the list of places that comes next: the last place that can still go up does, those behind it follow it -/
structure Nx (n : Nat) (ix out : List Nat) : Prop where
  ex : ∃ i, i < ix.length ∧ ix.getD i 0 ≠ i + n - ix.length ∧ (∀ j, i < j → j < ix.length → ix.getD j 0 = j + n - ix.length) ∧ out = ix.take i ++ (List.range (ix.length - i)).map fun j => ix.getD i 0 + 1 + j
section
variable {prog : Program} {w : World} {A : Around} {E : Value → Shared → Prop} {s : Shared}
theorem next_more {it p : Addr} {ix out : List Nat} {items : Array Value} {last : Value} {Q : Option Value → Shared → Prop} (hit : IsCmb s.heap it p 1 last ix) (hp : s.heap.IsTuple p items) (hne : it ≠ p) (hsz : out.length ≤ sizeLine) (hx : Nx items.size ix out)
    (hQ : ∀ h', IsCmb h' it p 1 (.ref s.heap.objs.size) out → h'.get? s.heap.objs.size = some { cls := .type "tuple", data := .seq (out.map fun i => items.getD i .none).toArray } → (∀ b o, b ≠ it → s.heap.get? b = some o → h'.get? b = some o) → Q (some (.ref s.heap.objs.size)) { s with heap := h' }) :
    wpAny (model prog w) A (pyNext (.ref it)) Q E s := by
  have hT : s.TypeIs (.ref it) "itertools.combinations" := ⟨_, hit, rfl⟩
  obtain ⟨⟨oc, od, oda, osl⟩, hp0, hpc, pn, hpd⟩ := hp
  simp only at hpc hpd
  subst hpc hpd
  unfold pyNext
  refine wpAny_bind (wpAny_attempt (wpAny_callSpecial?_slot (name := Str.ofString "__next__") hT nextC (wpAny_call_entry nextC hT entryNextC ?_ (argsNextC _))))
  show wpAny _ _ (field (.ref it) 0 >>= _) _ _ s
  refine wpAny_bind (wpAny_field hit rfl (x := .ref p) rfl ?_)
  show wpAny _ _ (Builtin.Itertools.itNumbersFrom (.ref it) 3 >>= _) _ _ _
  refine wpAny_bind ?_
  unfold Builtin.Itertools.itNumbersFrom
  refine wpAny_bind (wpAny_load hit ?_)
  refine wpAny_pure ?_
  rw [places_of (fun i => Int.toNat_natCast i)]
  show wpAny _ _ (Builtin.Itertools.itIntField (.ref it) 1 >>= _) _ _ _
  refine wpAny_bind ?_
  unfold Builtin.Itertools.itIntField
  refine wpAny_bind (wpAny_field hit rfl (x := .int 1 0) rfl (wpAny_pure ?_))
  show wpAny _ _ (Builtin.Itertools.itPoolItems (.ref p) >>= _) _ _ _
  refine wpAny_bind ?_
  unfold Builtin.Itertools.itPoolItems
  refine wpAny_bind (wpAny_seqItems hp0 rfl (wpAny_pure ?_))
  have hz3 : 2 < ([Value.ref p, .int 1 0, last] ++ ix.map fun (i : Nat) => Value.int i 0).toArray.size := by simp
  have key : ∀ o : Option (List Nat), o = (match List.find? (fun i => ix.getD i 0 != i + items.size - ix.length) (List.range ix.length).reverse with | none => none | some i => some (ix.take i ++ (List.range (ix.length - i)).map fun j => ix.getD i 0 + 1 + j)) → o = some out := fun o ho => by
    obtain ⟨i, h1, h2, h3, e⟩ := hx.ex
    rw [ho, find_last (p := fun i => ix.getD i 0 != i + items.size - ix.length) h1 (bne_iff_ne.mpr h2) fun j a b => by show (ix.getD j 0 != j + items.size - ix.length) = false; rw [h3 j a b]; exact bne_self_eq_false _, e]
  split
  · rename_i next heq
    obtain rfl : next = out := Option.some.inj (heq.symm.trans (key _ rfl))
    refine wpAny_bind ?_
    unfold Builtin.Itertools.itSetNumbersFrom
    have ef : ([Value.ref p, .int 1 0, last] ++ ix.map fun (i : Nat) => Value.int i 0).toArray.extract 0 3 ++ (next.map fun (n : Nat) => rawInt n).toArray = ([Value.ref p, .int 1 0, last] ++ next.map fun (i : Nat) => Value.int i 0).toArray := by
      apply Array.toList_inj.mp
      simp
      exact fun _ _ => rfl
    refine wpAny_updateFields hit rfl ?_ (hz := by rw [ef]; simp; omega)
    have hit1 : IsCmb (s.heap.update it (Obj.mapFields fun fs => fs.extract 0 3 ++ (next.map fun (n : Nat) => rawInt n).toArray)) it p 1 last next := (Heap.get?_update_self _ hit rfl).trans (by
      rw [← ef]
      rfl)
    have sb1 := Heap.SameBut.update s.heap it (Obj.mapFields fun fs => fs.extract 0 3 ++ (next.map fun (n : Nat) => rawInt n).toArray)
    have hp1 := (sb1.2 p (Ne.symm hne)).trans hp0
    have hz : (s.heap.update it (Obj.mapFields fun fs => fs.extract 0 3 ++ (next.map fun (n : Nat) => rawInt n).toArray)).objs.size = s.heap.objs.size := by simp [Heap.update]
    generalize s.heap.update it (Obj.mapFields fun fs => fs.extract 0 3 ++ (next.map fun (n : Nat) => rawInt n).toArray) = h1 at *
    refine wpAny_bind ?_
    show wpAny _ _ (Builtin.Itertools.itPoolItems (.ref p) >>= _) _ _ _
    refine wpAny_bind ?_
    unfold Builtin.Itertools.itPoolItems
    refine wpAny_bind (wpAny_seqItems hp1 rfl (wpAny_pure ?_))
    refine wpAny_newTuple ?_ (by rw [List.length_map]; exact hsz)
    show wpAny _ _ (field (.ref it) 2 >>= _) _ _ _
    dsimp only
    rw [hz]
    have hit2 : IsCmb (h1.push { cls := .type "tuple", data := .seq (next.map fun i => items.getD i .none).toArray }) it p 1 last next := Heap.get?_push_of_some _ hit1
    have new2 : (h1.push { cls := .type "tuple", data := .seq (next.map fun i => items.getD i .none).toArray }).get? s.heap.objs.size = some { cls := .type "tuple", data := .seq (next.map fun i => items.getD i .none).toArray } := by
      rw [← hz]
      exact Heap.get?_push_size _ rfl
    have k2 : ∀ b o, h1.get? b = some o → (h1.push { cls := .type "tuple", data := .seq (next.map fun i => items.getD i .none).toArray }).get? b = some o := fun b o q => Heap.get?_push_of_some _ q
    have hne2 : s.heap.objs.size ≠ it := Nat.ne_of_gt (Heap.lt_size hit)
    generalize h1.push { cls := .type "tuple", data := .seq (next.map fun i => items.getD i .none).toArray } = h2 at *
    refine wpAny_bind (wpAny_field hit2 rfl (x := last) rfl ?_)
    refine wpAny_bind (wpAny_setField hit2 rfl (by simp) ?_)
    refine wpAny_bind (wpAny_letGo ?_)
    refine wpAny_pure ⟨_, rfl, wpAny_pure ?_⟩
    have sb2 := Heap.SameBut.update h2 it (Obj.mapFields fun x => x.setIfInBounds 2 (.ref s.heap.objs.size))
    exact hQ _ (Heap.get?_update_self _ hit2 rfl) ((sb2.2 _ hne2).trans new2) fun b o hb q => (sb2.2 b hb).trans (k2 b o ((sb1.2 b hb).trans q))
  · rename_i heq
    exact absurd (heq.symm.trans (key _ rfl)) (by intro z; cases z)
/-- behind the last one -/
theorem next_end {it p : Addr} {ix : List Nat} {items : Array Value} {last : Value} {Q : Option Value → Shared → Prop} (hh : A.handled = none) (hit : IsCmb s.heap it p 1 last ix) (hp : s.heap.IsTuple p items) (hx : ∀ j, j < ix.length → ix.getD j 0 = j + items.size - ix.length)
    (hQ : ∀ h', (∀ b o, b ≠ it → s.heap.get? b = some o → h'.get? b = some o) → Q none { s with heap := h' }) :
    wpAny (model prog w) A (pyNext (.ref it)) Q E s := by
  have hT : s.TypeIs (.ref it) "itertools.combinations" := ⟨_, hit, rfl⟩
  obtain ⟨⟨oc, od, oda, osl⟩, hp0, hpc, pn, hpd⟩ := hp
  simp only at hpc hpd
  subst hpc hpd
  unfold pyNext
  refine wpAny_bind (wpAny_attempt (wpAny_callSpecial?_slot (name := Str.ofString "__next__") hT nextC (wpAny_call_entry nextC hT entryNextC ?_ (argsNextC _))))
  show wpAny _ _ (field (.ref it) 0 >>= _) _ _ s
  refine wpAny_bind (wpAny_field hit rfl (x := .ref p) rfl ?_)
  show wpAny _ _ (Builtin.Itertools.itNumbersFrom (.ref it) 3 >>= _) _ _ _
  refine wpAny_bind ?_
  unfold Builtin.Itertools.itNumbersFrom
  refine wpAny_bind (wpAny_load hit ?_)
  refine wpAny_pure ?_
  rw [places_of (fun i => Int.toNat_natCast i)]
  show wpAny _ _ (Builtin.Itertools.itIntField (.ref it) 1 >>= _) _ _ _
  refine wpAny_bind ?_
  unfold Builtin.Itertools.itIntField
  refine wpAny_bind (wpAny_field hit rfl (x := .int 1 0) rfl (wpAny_pure ?_))
  show wpAny _ _ (Builtin.Itertools.itPoolItems (.ref p) >>= _) _ _ _
  refine wpAny_bind ?_
  unfold Builtin.Itertools.itPoolItems
  refine wpAny_bind (wpAny_seqItems hp0 rfl (wpAny_pure ?_))
  have key : ∀ o : Option (List Nat), o = (match List.find? (fun i => ix.getD i 0 != i + items.size - ix.length) (List.range ix.length).reverse with | none => none | some i => some (ix.take i ++ (List.range (ix.length - i)).map fun j => ix.getD i 0 + 1 + j)) → o = none := fun o ho => by
    rw [ho, find_no (p := fun i => ix.getD i 0 != i + items.size - ix.length) fun j a => by show (ix.getD j 0 != j + items.size - ix.length) = false; rw [hx j a]; exact bne_self_eq_false _]
  split
  · rename_i heq
    exact absurd (heq.symm.trans (key _ rfl)) (by intro z; cases z)
  · refine wpAny_bind (wpAny_setField hit rfl (by simp) ?_)
    have sb1 := Heap.SameBut.update s.heap it (Obj.mapFields fun x => x.setIfInBounds 1 (rawInt 2))
    generalize s.heap.update it (Obj.mapFields fun x => x.setIfInBounds 1 (rawInt 2)) = h1 at *
    unfold Builtin.Itertools.itStop
    show wpAny _ _ (newExc (.type "StopIteration") [] >>= _) _ _ _
    refine wpAny_bind ?_
    simp only [newExc, newTuple]
    refine wpAny_bind (wpAny_newObj_type ?_ (by size_fits))
    refine wpAny_bind (m := firstArgMember _ _) (wpAny_of_eq (a := Value.none) (by first | rfl | (simp only [firstArgMember]; rfl)) ?_)
    refine wpAny_newObj_type ?_ (by size_fits)
    simp only [raiseNew]
    refine wpAny_bind (wpAny_handled ?_)
    first | rw [show A.in1.handled = none from hh] | rw [hh]
    refine wpAny_bind (wpAny_pure (wpAny_throw ?_))
    refine wpAny_bind (wpAny_isInstance (T := "StopIteration") (b := true) ⟨_, Heap.get?_push_size _ rfl, rfl⟩ isSubtype_stop ?_)
    exact wpAny_pure (hQ _ fun b o hb q => Heap.get?_push_of_some _ (Heap.get?_push_of_some _ ((sb1.2 b hb).trans q)))
end
end Cmb
namespace Cmb
open PySem PySem.Spec PyProof.Rows
theorem meets_new (r : Addr) (n : Nat) (k : Nat) (t u v tk : Tok) (a c : Int) (hk : k ≤ 1000) :
    Meets (Builtin.«itertools.combinations.__new__» ⟨[.type "itertools.combinations", .ref r, .int (k : Int) tk], []⟩)
      (fun A R s => A.handled = none ∧ IsRange s.heap r 0 a c t u v ∧ Builtin.Range.small 0 a c = true ∧ Builtin.Range.rangeSize 0 a c = n ∧ n ≤ 1000 ∧
        ∀ (h' : Heap) (tk' : Nat) (q p : Addr) (acc : Array Value), (∀ b o, s.heap.get? b = some o → h'.get? b = some o) → s.heap.get? p = none → s.heap.get? q = none → r < p → r < q → q ≠ p → ItemsOf (fun i v => ∃ t, v = .int (0 + i * c) t) acc n → h'.IsTuple p acc → IsCmb h' q p (if k > n then 2 else 0) .none (List.range k) →
          R (.ok (.ret (.ref q))) { s with heap := h', toks := tk' }) :=
  .of_wp fun prog w A R s ⟨hh, hr, hsm, hn, hn1, h⟩ => by
    have hsub := subC
    have hd := noDictC
    unfold Builtin.«itertools.combinations.__new__»
    refine wpAny_bind ?_
    show wpAny _ _ (Builtin.Itertools.itClassAndRest "combinations" _ >>= _) _ _ s
    generalize hC : collect = C
    have hn : ¬ ((!(decide (-(2 ^ 63 : Int) ≤ (k : Int)) && decide ((k : Int) < (2 ^ 63 : Int)))) = true) := by
      have a : decide (-(2 ^ 63 : Int) ≤ (k : Int)) = true := decide_eq_true (by omega)
      have b : decide ((k : Int) < (2 ^ 63 : Int)) = true := decide_eq_true (by omega)
      rw [a, b]
      decide
    iterate 6 (first
      | wp_step
      | simp only [List.head?_cons, Option.some_or, List.getElem?_cons_succ, List.getElem?_cons_zero, List.length_cons, List.length_nil, List.forIn_nil]
      | (refine wpAny_ite_false (decide_eq_false hn) ?_))
    have eT : ("itertools." ++ "combinations" : String) = "itertools.combinations" := by decide
    dsimp only
    simp only [eT]
    refine wpAny_bind (wpAny_of_eq (a := true) subC ?_)
    refine wpAny_pure ?_
    show wpAny _ _ (Builtin.Itertools.itBindNamed "combinations" ["iterable", "r"] 2 2 [.ref r, .int (k : Int) tk] [] >>= _) _ _ _
    refine wpAny_bind (wpAny_of_eq (a := [some (.ref r), some (.int (k : Int) tk)]) (by first | rfl | (unfold Builtin.Itertools.itBindNamed; simp; rfl)) ?_)
    dsimp only
    subst hC
    have hs : Builtin.Itertools.itSsizeArg (.int (k : Int) tk) = pure (k : Int) := by
      unfold Builtin.Itertools.itSsizeArg
      have e1 : asIndex (.int (k : Int) tk) = pure (k : Int) := rfl
      rw [e1]
      show (if (decide ((k : Int) < -(2 ^ 63 : Int)) || decide ((k : Int) ≥ 2 ^ 63)) = true then _ else _) = _
      rw [if_neg (by rw [Bool.or_eq_true, decide_eq_true_eq, decide_eq_true_eq]; omega)]
    refine wpAny_bind (wpAny_of_eq hs (wpAny_bind (L2.collect_range (by simp [hh]) hr hsm (by first | assumption | omega) (by omega) fun h1 tk1 acc k1 hi => ?_)))
    rw [if_neg (by omega), if_neg (by unfold Builtin.Itertools.itTooMany; rw [decide_eq_true_eq]; omega)]
    have hal : acc.toList.length = n := by rw [Array.length_toList]; exact hi.1
    refine wpAny_bind (wpAny_newTuple ?_ (by rw [hal, sizeLine_eq]; omega))
    refine wpAny_pure ?_
    dsimp only
    refine wpAny_bind ?_
    unfold Builtin.Itertools.itNewRecord
    rw [hd, if_pos (show (!false) = true from rfl)]
    refine wpAny_newObj_type ?_ (by have := sizeLine_eq; show Array.size _ ≤ _; simp; omega)
    refine wpAny_pure ⟨_, rfl, ?_⟩
    have none_of : ∀ b, h1.get? b = none → s.heap.get? b = none := fun b hb => by
      cases q : s.heap.get? b with
      | none => rfl
      | some o => rw [k1 b o q] at hb; cases hb
    have rlt : r < h1.objs.size := Heap.lt_size (k1 _ _ hr)
    have sz : (h1.push { cls := .type "tuple", data := .seq acc.toList.toArray }).objs.size = h1.objs.size + 1 := Heap.size_push ..
    refine h _ _ _ h1.objs.size acc (fun b o q => Heap.get?_push_of_some _ (Heap.get?_push_of_some _ (k1 b o q))) (none_of _ (Heap.get?_none_of_le (Nat.le_refl _))) (none_of _ (Heap.get?_none_of_le (by rw [sz]; exact Nat.le_succ _))) rlt (by rw [sz]; exact Nat.lt_succ_of_lt rlt) (by rw [sz]; exact Nat.succ_ne_self _) hi ⟨_, Heap.get?_push_of_some _ (Heap.get?_push_size _ rfl), rfl, 0, by simp⟩ ?_
    refine (Heap.get?_push_size _ rfl).trans ?_
    rw [hal, Int.toNat_natCast]
    by_cases q : k > n
    · rw [if_pos q]
      rfl
    · rw [if_neg q]
      rfl
section
variable {prog : Program} {w : World} {A : Around} {E : Value → Shared → Prop} {s : Shared}
/-- combinations(range(n), k) -/
theorem call_cmb {r : Addr} {n k : Nat} {t u v tk : Tok} {a c : Int} {Q : Value → Shared → Prop} (hk : k ≤ 1000) (hh : A.handled = none) (hr : IsRange s.heap r 0 a c t u v) (hsm : Builtin.Range.small 0 a c = true) (hn : Builtin.Range.rangeSize 0 a c = n) (hn1 : n ≤ 1000)
    (h : ∀ (h' : Heap) (tk' : Nat) (q p : Addr) (acc : Array Value), (∀ b o, s.heap.get? b = some o → h'.get? b = some o) → s.heap.get? p = none → s.heap.get? q = none → r < p → r < q → q ≠ p → ItemsOf (fun i v => ∃ t, v = .int (0 + i * c) t) acc n → h'.IsTuple p acc → IsCmb h' q p (if k > n then 2 else 0) .none (List.range k) → Q (.ref q) { s with heap := h', toks := tk' }) :
    wpAny (model prog w) A (call (.type "itertools.combinations") [.ref r, .int (k : Int) tk]) Q E s := by
  refine callType_new calledC (by decide +kernel) (checkC _ _) (checkNewC _ _) (fun obj => F.args_object_init_3 obj _ _) entryNewC (meets_new r n k t u v tk a c hk) ⟨by simp [hh], hr, hsm, hn, hn1, fun h' tk' q p acc h1 h2 h3 l1 l2 h4 h5 h6 h7 => ?_⟩
  exact ⟨⟨_, h7, rfl⟩, h h' tk' q p acc h1 h2 h3 l1 l2 h4 h5 h6 h7⟩
end
end Cmb
namespace Cmb
open PySem PySem.Spec
section
variable {prog : Program} {w : World} {A : Around} {E : Value → Shared → Prop} {s : Shared}
/-- where more are asked for than there are -/
theorem next_over {it p : Addr} {ix : List Nat} {last : Value} {Q : Option Value → Shared → Prop} (hh : A.handled = none) (hit : IsCmb s.heap it p 2 last ix)
    (hQ : ∀ h', (∀ b o, b ≠ it → s.heap.get? b = some o → h'.get? b = some o) → Q none { s with heap := h' }) :
    wpAny (model prog w) A (pyNext (.ref it)) Q E s := by
  have hT : s.TypeIs (.ref it) "itertools.combinations" := ⟨_, hit, rfl⟩
  unfold pyNext
  refine wpAny_bind (wpAny_attempt (wpAny_callSpecial?_slot (name := Str.ofString "__next__") hT nextC (wpAny_call_entry nextC hT entryNextC ?_ (argsNextC _))))
  show wpAny _ _ (field (.ref it) 0 >>= _) _ _ s
  refine wpAny_bind (wpAny_field hit rfl (x := .ref p) rfl ?_)
  show wpAny _ _ (Builtin.Itertools.itNumbersFrom (.ref it) 3 >>= _) _ _ _
  refine wpAny_bind ?_
  unfold Builtin.Itertools.itNumbersFrom
  refine wpAny_bind (wpAny_load hit ?_)
  refine wpAny_pure ?_
  rw [places_of (fun i => Int.toNat_natCast i)]
  show wpAny _ _ (Builtin.Itertools.itIntField (.ref it) 1 >>= _) _ _ _
  refine wpAny_bind ?_
  unfold Builtin.Itertools.itIntField
  refine wpAny_bind (wpAny_field hit rfl (x := .int 2 0) rfl (wpAny_pure ?_))
  refine wpAny_bind (wpAny_rule ?_)
  unfold Builtin.Itertools.itStop
  show wpAny _ _ (newExc (.type "StopIteration") [] >>= _) _ _ _
  refine wpAny_bind ?_
  simp only [newExc, newTuple]
  refine wpAny_bind (wpAny_newObj_type ?_ (by size_fits))
  refine wpAny_bind (m := firstArgMember _ _) (wpAny_of_eq (a := Value.none) (by first | rfl | (simp only [firstArgMember]; rfl)) ?_)
  refine wpAny_newObj_type ?_ (by size_fits)
  simp only [raiseNew]
  refine wpAny_bind (wpAny_handled ?_)
  first | rw [show A.in1.handled = none from hh] | rw [hh]
  refine wpAny_bind (wpAny_pure (wpAny_throw ?_))
  refine wpAny_bind (wpAny_isInstance (T := "StopIteration") (b := true) ⟨_, Heap.get?_push_size _ rfl, rfl⟩ isSubtype_stop ?_)
  exact wpAny_pure (hQ _ fun b o hb q => Heap.get?_push_of_some _ (Heap.get?_push_of_some _ q))
end
end Cmb
namespace Kx
/-! places that hang together -/
abbrev Tie := Nat × Nat
inductive Conn (ts : List Tie) : Nat → Nat → Prop
  | refl (a : Nat) : Conn ts a a
  | step {a b c : Nat} : Conn ts a b → (b, c) ∈ ts ∨ (c, b) ∈ ts → Conn ts a c
theorem Conn.trans {ts : List Tie} {a b c : Nat} (h : Conn ts a b) (k : Conn ts b c) : Conn ts a c := by
  induction k with
  | refl => exact h
  | step _ e ih => exact .step ih e
theorem Conn.edge {ts : List Tie} {a b : Nat} (h : (a, b) ∈ ts ∨ (b, a) ∈ ts) : Conn ts a b := .step (.refl a) h
theorem Conn.symm {ts : List Tie} {a b : Nat} (h : Conn ts a b) : Conn ts b a := by
  induction h with
  | refl => exact .refl _
  | step _ e ih => exact (Conn.edge e.symm).trans ih
theorem Conn.mono {ts us : List Tie} {a b : Nat} (i : ∀ t ∈ ts, t ∈ us) (h : Conn ts a b) : Conn us a b := by
  induction h with
  | refl => exact .refl _
  | step _ e ih => exact .step ih (e.imp (i _) (i _))
theorem conn_more {ts : List Tie} {a b i j : Nat} : Conn (ts ++ [(a, b)]) i j ↔ Conn ts i j ∨ (Conn ts i a ∧ Conn ts b j) ∨ (Conn ts i b ∧ Conn ts a j) := by
  constructor
  · intro h
    induction h with
    | refl => exact .inl (.refl _)
    | @step c d _ e ih =>
      have old : (c, d) ∈ ts ∨ (d, c) ∈ ts → Conn ts i d ∨ (Conn ts i a ∧ Conn ts b d) ∨ (Conn ts i b ∧ Conn ts a d) := fun e => by
        rcases ih with h | ⟨h1, h2⟩ | ⟨h1, h2⟩
        · exact .inl (.step h e)
        · exact .inr (.inl ⟨h1, .step h2 e⟩)
        · exact .inr (.inr ⟨h1, .step h2 e⟩)
      rcases e with e | e
      · rcases List.mem_append.mp e with e | e
        · exact old (.inl e)
        · cases List.mem_singleton.mp e
          rcases ih with h | ⟨h1, h2⟩ | ⟨h1, h2⟩
          · exact .inr (.inl ⟨h, .refl _⟩)
          · exact .inr (.inl ⟨h1, .refl _⟩)
          · exact .inl h1
      · rcases List.mem_append.mp e with e | e
        · exact old (.inr e)
        · cases List.mem_singleton.mp e
          rcases ih with h | ⟨h1, h2⟩ | ⟨h1, h2⟩
          · exact .inr (.inr ⟨h, .refl _⟩)
          · exact .inl h1
          · exact .inr (.inr ⟨h1, .refl _⟩)
  · have up : ∀ {x y}, Conn ts x y → Conn (ts ++ [(a, b)]) x y := fun h => h.mono fun t m => List.mem_append_left _ m
    have ed : Conn (ts ++ [(a, b)]) a b := Conn.edge (.inl (List.mem_append_right _ (List.mem_singleton.mpr rfl)))
    rintro (h | ⟨h1, h2⟩ | ⟨h1, h2⟩)
    · exact up h
    · exact ((up h1).trans ed).trans (up h2)
    · exact ((up h1).trans ed.symm).trans (up h2)
/-- no way out -/
theorem conn_closed {ts : List Tie} {S : Nat → Prop} (h : ∀ t ∈ ts, (S t.1 → S t.2) ∧ (S t.2 → S t.1)) {a b : Nat} (c : Conn ts a b) (ha : S a) : S b := by
  induction c with
  | refl => exact ha
  | step _ e ih =>
    rcases e with e | e
    · exact (h _ e).1 ih
    · exact (h _ e).2 ih
def TiesN (n : Nat) (ts : List Tie) : Prop := ∀ t ∈ ts, t.1 < n ∧ t.2 < n
/-! least places: the program's way -/
def lo (f : Nat → Nat) (t : Tie) : Nat := if f t.2 < f t.1 then f t.2 else f t.1
def hi (f : Nat → Nat) (t : Tie) : Nat := if f t.2 > f t.1 then f t.2 else f t.1
def low (f : Nat → Nat) (t : Tie) : Nat → Nat := fun i => if f i = hi f t then lo f t else f i
structure Least (n : Nat) (ts : List Tie) (f : Nat → Nat) : Prop where
  same : ∀ i j, i < n → j < n → (f i = f j ↔ Conn ts i j)
  le : ∀ i, i < n → f i ≤ i
  own : ∀ i, i < n → f (f i) = f i
theorem Least.start (n : Nat) : Least n [] fun i => i := by
  refine ⟨fun i j _ _ => ⟨fun h => h ▸ .refl _, fun h => ?_⟩, fun i _ => Nat.le_refl i, fun i _ => rfl⟩
  cases h with
  | refl => rfl
  | step _ e => rcases e with e | e <;> cases e
theorem Least.more {n : Nat} {ts : List Tie} {f : Nat → Nat} {t : Tie} (L : Least n ts f) (h1 : t.1 < n) (h2 : t.2 < n) : Least n (ts ++ [t]) (low f t) := by
  obtain ⟨a, b⟩ := t
  simp only at h1 h2
  have la := L.le a h1
  have lb := L.le b h2
  have oa := L.own a h1
  have ob := L.own b h2
  have key : ∀ i j, low f (a, b) i = low f (a, b) j ↔ f i = f j ∨ (f i = f a ∧ f b = f j) ∨ (f i = f b ∧ f a = f j) := fun i j => by
    unfold low lo hi
    simp only
    repeat' split
    all_goals omega
  refine ⟨fun i j hi hj => ?_, fun i hi => ?_, fun i hi => ?_⟩
  · rw [key, conn_more, L.same i j hi hj, L.same i a hi h1, L.same b j h2 hj, L.same i b hi h2, L.same a j h1 hj]
  · have := L.le i hi
    unfold low lo Kx.hi
    simp only
    repeat' split
    all_goals omega
  · have l1 := L.le i hi
    have o1 := L.own i hi
    unfold low lo Kx.hi
    simp only
    repeat' split
    all_goals omega
theorem Least.all {n : Nat} : ∀ {us ts : List Tie} {f : Nat → Nat}, Least n ts f → TiesN n us → Least n (ts ++ us) (us.foldl low f)
  | [], ts, f, L, _ => by rw [List.append_nil]; exact L
  | t :: us, ts, f, L, h => by
    have := Least.all (us := us) (L.more (h t List.mem_cons_self).1 (h t List.mem_cons_self).2) fun u m => h u (List.mem_cons_of_mem _ m)
    rw [List.append_assoc] at this
    exact this
def leasts (ts : List Tie) : Nat → Nat := ts.foldl low fun i => i
theorem leasts_ok {n : Nat} {ts : List Tie} (h : TiesN n ts) : Least n ts (leasts ts) := by
  have := Least.all (Least.start n) h
  rw [List.nil_append] at this
  exact this
/-- the part of s, rising -/
def partOf (n : Nat) (ts : List Tie) (s : Nat) : List Nat := (List.range n).filter fun p => leasts ts p = leasts ts s
def parts (n : Nat) (ts : List Tie) : List (List Nat) := ((List.range n).filter fun s => leasts ts s = s).map fun s => (List.range n).filter fun p => leasts ts p = s
/-! going along ties: the law's way -/
def go1 (x : Nat) (found : List Nat) (t : Tie) : List Nat := if t.1 = x ∧ t.2 ∉ found then found ++ [t.2] else found
def go2 (x : Nat) (found : List Nat) (t : Tie) : List Nat := if t.2 = x ∧ t.1 ∉ found then found ++ [t.1] else found
def go (x : Nat) (found : List Nat) (t : Tie) : List Nat := go2 x (go1 x found t) t
structure Going (n : Nat) (ts : List Tie) (s : Nat) (found : List Nat) : Prop where
  nd : found.Nodup
  lt : ∀ p ∈ found, p < n
  conn : ∀ p ∈ found, Conn ts s p
  has : s ∈ found
theorem go1_pre (x : Nat) (found : List Nat) (t : Tie) : ∃ r, go1 x found t = found ++ r := by
  unfold go1
  split
  · exact ⟨_, rfl⟩
  · exact ⟨[], by rw [List.append_nil]⟩
theorem go2_pre (x : Nat) (found : List Nat) (t : Tie) : ∃ r, go2 x found t = found ++ r := by
  unfold go2
  split
  · exact ⟨_, rfl⟩
  · exact ⟨[], by rw [List.append_nil]⟩
theorem go_pre (x : Nat) (found : List Nat) (t : Tie) : ∃ r, go x found t = found ++ r := by
  obtain ⟨r, h⟩ := go1_pre x found t
  obtain ⟨r2, h2⟩ := go2_pre x (go1 x found t) t
  exact ⟨r ++ r2, by unfold go; rw [h2, h, List.append_assoc]⟩
theorem Going.add {n : Nat} {ts : List Tie} {s : Nat} {found : List Nat} {p : Nat} (G : Going n ts s found) (h : p ∉ found) (hp : p < n) (hc : Conn ts s p) : Going n ts s (found ++ [p]) :=
  ⟨List.nodup_append.mpr ⟨G.nd, (List.pairwise_singleton _ p), fun a ha b hb e => by
    have : b = p := List.mem_singleton.mp hb
    subst this
    subst e
    exact h ha⟩, fun q hq => (List.mem_append.mp hq).elim (G.lt q) fun z => by rw [List.mem_singleton.mp z]; exact hp,
    fun q hq => (List.mem_append.mp hq).elim (G.conn q) fun z => by rw [List.mem_singleton.mp z]; exact hc, List.mem_append_left _ G.has⟩
theorem Going.go {n : Nat} {ts : List Tie} {s x : Nat} {found : List Nat} {t : Tie} (G : Going n ts s found) (hx : x ∈ found) (ht : t ∈ ts) (hv : t.1 < n ∧ t.2 < n) :
    Going n ts s (go x found t) ∧ (t.1 = x → t.2 ∈ Kx.go x found t) ∧ (t.2 = x → t.1 ∈ Kx.go x found t) := by
  obtain ⟨a, b⟩ := t
  simp only at hv
  have G1 : Going n ts s (go1 x found (a, b)) ∧ (a = x → b ∈ go1 x found (a, b)) := by
    unfold go1
    split
    · rename_i h
      refine ⟨G.add h.2 hv.2 (.step (b := a) (by have e : a = x := h.1; rw [e]; exact G.conn x hx) (.inl ht)), fun _ => List.mem_append_right _ (List.mem_singleton.mpr rfl)⟩
    · rename_i h
      exact ⟨G, fun e => Classical.not_not.mp fun q => h ⟨e, q⟩⟩
  have hx1 : x ∈ go1 x found (a, b) := by
    obtain ⟨r, e⟩ := go1_pre x found (a, b)
    rw [e]
    exact List.mem_append_left _ hx
  have G2 : Going n ts s (go2 x (go1 x found (a, b)) (a, b)) ∧ (b = x → a ∈ go2 x (go1 x found (a, b)) (a, b)) := by
    unfold go2
    split
    · rename_i h
      refine ⟨G1.1.add h.2 hv.1 (.step (b := b) (by have e : b = x := h.1; rw [e]; exact G1.1.conn x hx1) (.inr ht)), fun _ => List.mem_append_right _ (List.mem_singleton.mpr rfl)⟩
    · rename_i h
      exact ⟨G1.1, fun e => Classical.not_not.mp fun q => h ⟨e, q⟩⟩
  refine ⟨G2.1, fun e => ?_, G2.2⟩
  obtain ⟨r, e2⟩ := go2_pre x (go1 x found (a, b)) (a, b)
  unfold Kx.go
  rw [e2]
  exact List.mem_append_left _ (G1.2 e)
/-- all ties of a part gone over -/
theorem Going.all {n : Nat} {ts : List Tie} {s x : Nat} : ∀ {us : List Tie} {found : List Nat}, Going n ts s found → x ∈ found → (∀ t ∈ us, t ∈ ts) → TiesN n us →
    Going n ts s (us.foldl (Kx.go x) found) ∧ (∃ r, us.foldl (Kx.go x) found = found ++ r) ∧ ∀ t ∈ us, (t.1 = x → t.2 ∈ us.foldl (Kx.go x) found) ∧ (t.2 = x → t.1 ∈ us.foldl (Kx.go x) found)
  | [], found, G, _, _, _ => ⟨G, ⟨[], by rw [List.append_nil]; rfl⟩, fun t h => by cases h⟩
  | t :: us, found, G, hx, hs, hv => by
    obtain ⟨G1, h1, h2⟩ := G.go hx (hs t List.mem_cons_self) (hv t List.mem_cons_self)
    obtain ⟨r, hr⟩ := go_pre x found t
    have hx1 : x ∈ Kx.go x found t := by rw [hr]; exact List.mem_append_left _ hx
    obtain ⟨G2, ⟨r2, hr2⟩, h3⟩ := Going.all (us := us) G1 hx1 (fun u m => hs u (List.mem_cons_of_mem _ m)) fun u m => hv u (List.mem_cons_of_mem _ m)
    have up : ∀ p, p ∈ Kx.go x found t → p ∈ us.foldl (Kx.go x) (Kx.go x found t) := fun p hp => by rw [hr2]; exact List.mem_append_left _ hp
    refine ⟨G2, ⟨r ++ r2, ?_⟩, fun u hu => ?_⟩
    · show us.foldl (Kx.go x) (Kx.go x found t) = _
      rw [hr2, hr, List.append_assoc]
    · rcases List.mem_cons.mp hu with e | hu
      · subst e
        exact ⟨fun z => up _ (h1 z), fun z => up _ (h2 z)⟩
      · exact h3 u hu
theorem nodup_len {l : List Nat} {n : Nat} (h : l.Nodup) (hl : ∀ p ∈ l, p < n) : l.length ≤ n := by
  have p : l.Perm ((List.range n).filter fun q => decide (q ∈ l)) := (List.perm_ext_iff_of_nodup h (List.nodup_range.filter _)).mpr fun q => by
    rw [List.mem_filter, List.mem_range, decide_eq_true_eq]
    exact ⟨fun m => ⟨hl q m, m⟩, fun m => m.2⟩
  have := List.length_filter_le (fun q => decide (q ∈ l)) (List.range n)
  rw [List.length_range] at this
  rw [p.length_eq]
  exact this
/-- the state of the going: the first a places are gone from -/
structure Been (n : Nat) (ts : List Tie) (s : Nat) (found : List Nat) (a : Nat) : Prop extends Going n ts s found where
  done : ∀ k x, k < a → found[k]? = some x → ∀ t ∈ ts, (t.1 = x → t.2 ∈ found) ∧ (t.2 = x → t.1 ∈ found)
theorem Been.start {n : Nat} {ts : List Tie} {s : Nat} (h : s < n) : Been n ts s [s] 0 :=
  ⟨⟨List.pairwise_singleton _ s, fun p hp => by rw [List.mem_singleton.mp hp]; exact h, fun p hp => by rw [List.mem_singleton.mp hp]; exact .refl _, List.mem_singleton.mpr rfl⟩, fun k x hk => by omega⟩
theorem Been.next {n : Nat} {ts : List Tie} {s a x : Nat} {found : List Nat} (B : Been n ts s found a) (hx : found[a]? = some x) (hv : TiesN n ts) : Been n ts s (ts.foldl (go x) found) (a + 1) := by
  have hm : x ∈ found := List.mem_of_getElem? hx
  obtain ⟨G, ⟨r, hr⟩, h⟩ := B.toGoing.all hm (fun t m => m) hv
  refine ⟨G, fun k y hk hy t ht => ?_⟩
  have hlt : a < found.length := (List.getElem?_eq_some_iff.mp hx).1
  by_cases e : k = a
  · subst e
    rw [hr, List.getElem?_append_left hlt, hx] at hy
    cases hy
    exact h t ht
  · have hk' : k < a := by omega
    rw [hr, List.getElem?_append_left (by omega)] at hy
    obtain ⟨q1, q2⟩ := B.done k y hk' hy t ht
    exact ⟨fun z => by rw [hr]; exact List.mem_append_left _ (q1 z), fun z => by rw [hr]; exact List.mem_append_left _ (q2 z)⟩
theorem Been.full {n : Nat} {ts : List Tie} {s : Nat} {found : List Nat} (B : Been n ts s found found.length) (p : Nat) : p ∈ found ↔ Conn ts s p := by
  refine ⟨B.conn p, fun c => conn_closed (S := fun q => q ∈ found) (fun t ht => ?_) c B.has⟩
  refine ⟨fun h => ?_, fun h => ?_⟩
  · obtain ⟨k, hk, e⟩ := List.mem_iff_getElem.mp h
    exact (B.done k t.1 hk (by rw [List.getElem?_eq_getElem hk, e]) t ht).1 rfl
  · obtain ⟨k, hk, e⟩ := List.mem_iff_getElem.mp h
    exact (B.done k t.2 hk (by rw [List.getElem?_eq_getElem hk, e]) t ht).2 rfl
theorem Been.perm {n : Nat} {ts : List Tie} {s : Nat} {found : List Nat} (B : Been n ts s found found.length) (hv : TiesN n ts) (hs : s < n) : found.Perm (partOf n ts s) := by
  have L := leasts_ok hv
  refine (List.perm_ext_iff_of_nodup B.nd (List.nodup_range.filter _)).mpr fun p => ?_
  rw [B.full, List.mem_filter, List.mem_range, decide_eq_true_eq]
  constructor
  · intro c
    have hp := B.lt p ((B.full p).mpr c)
    exact ⟨hp, ((L.same s p hs hp).mpr c).symm⟩
  · rintro ⟨hp, e⟩
    exact (L.same s p hs hp).mp e.symm
theorem partOf_sorted (n : Nat) (ts : List Tie) (s : Nat) : (partOf n ts s).Pairwise (· < ·) := List.pairwise_lt_range.filter _
theorem part_mem {n : Nat} {ts : List Tie} {s p : Nat} : p ∈ partOf n ts s ↔ p < n ∧ leasts ts p = leasts ts s := by
  unfold partOf
  rw [List.mem_filter, List.mem_range, decide_eq_true_eq]
/-- the first of a part is its least place -/
theorem partOf_head {n : Nat} {ts : List Tie} {s : Nat} (hv : TiesN n ts) (hs : s < n) : (partOf n ts s)[0]? = some (leasts ts s) := by
  have L := leasts_ok hv
  have l1 := L.le s hs
  have h1 : leasts ts s ∈ partOf n ts s := part_mem.mpr ⟨by omega, L.own s hs⟩
  have hsrt := partOf_sorted n ts s
  cases e : partOf n ts s with
  | nil => rw [e] at h1; cases h1
  | cons x r =>
    rw [e] at h1 hsrt
    have hx : x ∈ partOf n ts s := by rw [e]; exact List.mem_cons_self
    obtain ⟨hxn, hxl⟩ := part_mem.mp hx
    have l2 := L.le x hxn
    show some x = _
    rcases List.mem_cons.mp h1 with q | q
    · rw [q]
    · have := (List.pairwise_cons.mp hsrt).1 _ q
      omega
/-- the parts by the law's way -/
theorem parts_eq {n : Nat} {ts : List Tie} (hv : TiesN n ts) : parts n ts = ((List.range n).filter fun s => leasts ts s = s).map (partOf n ts) := by
  unfold parts
  refine List.map_congr_left fun s hs => ?_
  rw [List.mem_filter, decide_eq_true_eq] at hs
  unfold partOf
  rw [hs.2]
end Kx
namespace Kx
/-! a net drawn together along a tie -/
def loE (e : Tie) : Nat := if e.2 < e.1 then e.2 else e.1
def hiE (e : Tie) : Nat := if e.2 > e.1 then e.2 else e.1
def mv (l h x : Nat) : Nat := if x = h then l else if x > h then x - 1 else x
def drw (e : Tie) (ts : List Tie) : List Tie := ts.map fun t => (mv (loE e) (hiE e) t.1, mv (loE e) (hiE e) t.2)
theorem drw_len (e : Tie) (ts : List Tie) : (drw e ts).length = ts.length := List.length_map ..
theorem lohi {e : Tie} (h : e.1 ≠ e.2) : loE e < hiE e := by
  unfold loE hiE
  split <;> split <;> omega
theorem lohi_or (e : Tie) : (loE e = e.1 ∧ hiE e = e.2) ∨ (loE e = e.2 ∧ hiE e = e.1) := by
  unfold loE hiE
  split <;> split <;> omega
theorem mv_inj {l h x y : Nat} (hl : l < h) (e : mv l h x = mv l h y) : x = y ∨ (x = l ∧ y = h) ∨ (x = h ∧ y = l) := by
  unfold mv at e
  repeat' split at e
  all_goals omega
theorem mv_lt {l h x n : Nat} (hl : l < h) (hh : h < n) (hx : x < n) : mv l h x < n - 1 := by
  unfold mv
  repeat' split
  all_goals omega
theorem mv_onto {l h y n : Nat} (hl : l < h) (hh : h < n) (hy : y < n - 1) : ∃ x, x < n ∧ mv l h x = y := by
  by_cases q : y < h
  · refine ⟨y, by omega, ?_⟩
    unfold mv
    rw [if_neg (by omega), if_neg (by omega)]
  · refine ⟨y + 1, by omega, ?_⟩
    unfold mv
    rw [if_neg (by omega), if_pos (by omega)]
    omega
theorem drw_ok {n : Nat} {e : Tie} {ts : List Tie} (hne : e.1 ≠ e.2) (he : e.1 < n ∧ e.2 < n) (h : TiesN n ts) : TiesN (n - 1) (drw e ts) := fun t ht => by
  obtain ⟨u, hu, rfl⟩ := List.mem_map.mp ht
  have hh : hiE e < n := by rcases lohi_or e with q | q <;> omega
  exact ⟨mv_lt (lohi hne) hh (h u hu).1, mv_lt (lohi hne) hh (h u hu).2⟩
theorem mv_ends {e : Tie} (hne : e.1 ≠ e.2) : mv (loE e) (hiE e) e.1 = mv (loE e) (hiE e) e.2 := by
  have := lohi hne
  have := lohi_or e
  unfold mv
  repeat' split
  all_goals omega
theorem conn_drw {e : Tie} {ts : List Tie} (hne : e.1 ≠ e.2) {x y : Nat} : Conn (drw e ts) (mv (loE e) (hiE e) x) (mv (loE e) (hiE e) y) ↔ Conn (e :: ts) x y := by
  have hl := lohi hne
  have same : ∀ {x y}, mv (loE e) (hiE e) x = mv (loE e) (hiE e) y → Conn (e :: ts) x y := fun {x y} q => by
    have ed : Conn (e :: ts) e.1 e.2 := Conn.edge (.inl List.mem_cons_self)
    rcases mv_inj hl q with q | ⟨q1, q2⟩ | ⟨q1, q2⟩
    · rw [q]
      exact .refl _
    · rcases lohi_or e with ⟨a, b⟩ | ⟨a, b⟩
      · rw [q1, q2, a, b]
        exact ed
      · rw [q1, q2, a, b]
        exact ed.symm
    · rcases lohi_or e with ⟨a, b⟩ | ⟨a, b⟩
      · rw [q1, q2, a, b]
        exact ed.symm
      · rw [q1, q2, a, b]
        exact ed
  constructor
  · intro c
    have main : ∀ q, Conn (drw e ts) (mv (loE e) (hiE e) x) q → ∀ z, mv (loE e) (hiE e) z = q → Conn (e :: ts) x z := by
      intro q c
      induction c with
      | refl => exact fun z hz => same hz.symm
      | @step b c _ ed ih =>
        intro z hz
        rcases ed with ed | ed
        · obtain ⟨t, ht, q⟩ := List.mem_map.mp ed
          cases q
          exact (ih t.1 rfl).trans ((Conn.edge (.inl (List.mem_cons_of_mem _ ht))).trans (same hz.symm))
        · obtain ⟨t, ht, q⟩ := List.mem_map.mp ed
          cases q
          exact (ih t.2 rfl).trans ((Conn.edge (.inr (List.mem_cons_of_mem _ ht))).trans (same hz.symm))
    exact main _ c y rfl
  · intro c
    induction c with
    | refl => exact .refl _
    | @step b c _ ed ih =>
      have up : ∀ t, t ∈ e :: ts → Conn (drw e ts) (mv (loE e) (hiE e) t.1) (mv (loE e) (hiE e) t.2) := fun t ht => by
        rcases List.mem_cons.mp ht with q | q
        · subst q
          rw [mv_ends hne]
          exact .refl _
        · exact Conn.edge (.inl (List.mem_map.mpr ⟨t, q, rfl⟩))
      rcases ed with ed | ed
      · exact ih.trans (up _ ed)
      · exact ih.trans (up _ ed).symm
/-- all places hang together -/
def Whole (n : Nat) (ts : List Tie) : Prop := ∀ x y, x < n → y < n → Conn ts x y
theorem whole_drw {n : Nat} {e : Tie} {ts : List Tie} (hne : e.1 ≠ e.2) (he : e.1 < n ∧ e.2 < n) : Whole (n - 1) (drw e ts) ↔ Whole n (e :: ts) := by
  have hl := lohi hne
  have hh : hiE e < n := by rcases lohi_or e with q | q <;> omega
  constructor
  · intro h x y hx hy
    exact (conn_drw hne).mp (h _ _ (mv_lt hl hh hx) (mv_lt hl hh hy))
  · intro h x y hx hy
    obtain ⟨p, hp, rfl⟩ := mv_onto hl hh hx
    obtain ⟨q, hq, rfl⟩ := mv_onto hl hh hy
    exact (conn_drw hne).mpr (h p q hp hq)
theorem conn_loop {e : Tie} {ts : List Tie} (h : e.1 = e.2) {x y : Nat} : Conn (e :: ts) x y ↔ Conn ts x y := by
  constructor
  · intro c
    induction c with
    | refl => exact .refl _
    | @step b c _ ed ih =>
      rcases ed with ed | ed
      · rcases List.mem_cons.mp ed with q | q
        · subst q
          have h : b = c := h
          rw [← h]
          exact ih
        · exact .step ih (.inl q)
      · rcases List.mem_cons.mp ed with q | q
        · subst q
          have h : c = b := h
          rw [h]
          exact ih
        · exact .step ih (.inr q)
  · exact fun c => c.mono fun t ht => List.mem_cons_of_mem _ ht
theorem conn_nil {x y : Nat} (c : Conn [] x y) : x = y := by
  cases c with
  | refl => rfl
  | step _ e => rcases e with e | e <;> cases e
/-- so many ties at least -/
theorem whole_len : ∀ (k : Nat) {n : Nat} {ts : List Tie}, ts.length = k → TiesN n ts → Whole n ts → n ≤ k + 1
  | 0, n, ts, hk, _, h => by
    have : ts = [] := List.length_eq_zero_iff.mp hk
    subst this
    rcases Nat.lt_or_ge n 2 with q | q
    · omega
    · have := conn_nil (h 0 1 (by omega) (by omega))
      omega
  | k + 1, n, [], hk, _, _ => by cases hk
  | k + 1, n, e :: ts, hk, hv, h => by
    have hl : ts.length = k := by simpa using hk
    have hv' : TiesN n ts := fun t ht => hv t (List.mem_cons_of_mem _ ht)
    have he := hv e List.mem_cons_self
    by_cases q : e.1 = e.2
    · have := whole_len k hl hv' fun x y hx hy => (conn_loop q).mp (h x y hx hy)
      omega
    · have := whole_len k (n := n - 1) (ts := drw e ts) (by rw [drw_len]; exact hl) (drw_ok q he hv') ((whole_drw q he).mpr h)
      omega
/-! hangings -/
/-- rising lists of k numbers below m, in the order of lists -/
def up1 (s : List Nat) : List Nat := s.map (· + 1)
def cb : Nat → Nat → List (List Nat)
  | _, 0 => [[]]
  | 0, _ + 1 => []
  | m + 1, k + 1 => (cb m k).map (fun s => 0 :: up1 s) ++ (cb m (k + 1)).map up1
def hg : Nat → Nat → List Tie → List (List Nat)
  | 0, n, _ => if n = 1 then [[]] else []
  | _ + 1, n, [] => if n = 1 then [[]] else []
  | k + 1, n, e :: ts => (if e.1 = e.2 then [] else (hg k (n - 1) (drw e ts)).map fun s => 0 :: up1 s) ++ (hg k n ts).map up1
def hgs (n : Nat) (ts : List Tie) : List (List Nat) := hg ts.length n ts
theorem hgs_nil (n : Nat) : hgs n [] = if n = 1 then [[]] else [] := rfl
theorem hgs_cons (n : Nat) (e : Tie) (ts : List Tie) : hgs n (e :: ts) = (if e.1 = e.2 then [] else (hgs (n - 1) (drw e ts)).map fun s => 0 :: up1 s) ++ (hgs n ts).map up1 := by
  unfold hgs
  rw [drw_len]
  rfl
/-- the ties with these numbers -/
def pick (ts : List Tie) (s : List Nat) : List Tie := s.map fun k => ts.getD k (0, 0)
theorem pick_up (e : Tie) (ts : List Tie) (s : List Nat) : pick (e :: ts) (up1 s) = pick ts s := by
  unfold pick up1
  rw [List.map_map]
  refine List.map_congr_left fun k _ => ?_
  show (e :: ts).getD (k + 1) (0, 0) = _
  rw [List.getD_cons_succ]
theorem pick_zero (e : Tie) (ts : List Tie) (s : List Nat) : pick (e :: ts) (0 :: up1 s) = e :: pick ts s := by
  show (e :: ts).getD 0 (0, 0) :: pick (e :: ts) (up1 s) = _
  rw [pick_up]
  rfl
theorem pick_drw (e : Tie) (ts : List Tie) (s : List Nat) (hs : ∀ k ∈ s, k < ts.length) : pick (drw e ts) s = drw e (pick ts s) := by
  unfold pick drw
  rw [List.map_map]
  refine List.map_congr_left fun k hk => ?_
  have hk := hs k hk
  show (ts.map _).getD k (0, 0) = _
  rw [List.getD_eq_getElem?_getD, List.getElem?_map, List.getElem?_eq_getElem hk]
  show _ = (fun t : Tie => (mv (loE e) (hiE e) t.1, mv (loE e) (hiE e) t.2)) (ts.getD k (0, 0))
  rw [List.getD_eq_getElem?_getD, List.getElem?_eq_getElem hk]
  rfl
theorem pick_len (ts : List Tie) (s : List Nat) : (pick ts s).length = s.length := List.length_map ..
theorem pick_ok {n : Nat} {ts : List Tie} {s : List Nat} (hv : TiesN n ts) (hs : ∀ k ∈ s, k < ts.length) : TiesN n (pick ts s) := fun t ht => by
  obtain ⟨k, hk, rfl⟩ := List.mem_map.mp ht
  have hk := hs k hk
  rw [List.getD_eq_getElem?_getD, List.getElem?_eq_getElem hk]
  exact hv _ (List.getElem_mem hk)
theorem cb_mem : ∀ {m k : Nat} {s : List Nat}, s ∈ cb m k ↔ s.length = k ∧ s.Pairwise (· < ·) ∧ ∀ x ∈ s, x < m
  | m, 0, s => by
    cases m <;> simp only [cb, List.mem_singleton]
    all_goals
      constructor
      · rintro rfl
        exact ⟨rfl, .nil, fun x hx => by cases hx⟩
      · rintro ⟨h, _⟩
        exact List.length_eq_zero_iff.mp h
  | 0, k + 1, s => by
    simp only [cb, List.not_mem_nil, false_iff]
    rintro ⟨h, _, h2⟩
    cases s with
    | nil => cases h
    | cons a r => exact absurd (h2 a List.mem_cons_self) (Nat.not_lt_zero _)
  | m + 1, k + 1, s => by
    simp only [cb, List.mem_append, List.mem_map]
    constructor
    · rintro (⟨r, hr, rfl⟩ | ⟨r, hr, rfl⟩)
      · obtain ⟨h1, h2, h3⟩ := cb_mem.mp hr
        refine ⟨by simp [up1, h1], List.pairwise_cons.mpr ⟨fun x hx => ?_, ?_⟩, fun x hx => ?_⟩
        · obtain ⟨y, _, rfl⟩ := List.mem_map.mp hx
          omega
        · exact List.pairwise_map.mpr (h2.imp fun q => Nat.succ_lt_succ q)
        · rcases List.mem_cons.mp hx with q | q
          · omega
          · obtain ⟨y, hy, rfl⟩ := List.mem_map.mp q
            have := h3 y hy
            omega
      · obtain ⟨h1, h2, h3⟩ := cb_mem.mp hr
        refine ⟨by simp [up1, h1], List.pairwise_map.mpr (h2.imp fun q => Nat.succ_lt_succ q), fun x hx => ?_⟩
        obtain ⟨y, hy, rfl⟩ := List.mem_map.mp hx
        have := h3 y hy
        omega
    · rintro ⟨h1, h2, h3⟩
      have down : ∀ {r : List Nat}, (∀ x ∈ r, 0 < x) → up1 (r.map (· - 1)) = r := fun {r} h => by
        unfold up1
        rw [List.map_map]
        have : r.map ((· + 1) ∘ (· - 1)) = r.map id := List.map_congr_left fun x hx => by
          have := h x hx
          show x - 1 + 1 = x
          omega
        rw [this, List.map_id]
      have mem : ∀ {r : List Nat} {j : Nat}, (∀ x ∈ r, 0 < x) → r.length = j → r.Pairwise (· < ·) → (∀ x ∈ r, x < m + 1) → r.map (· - 1) ∈ cb m j := fun {r j} h a b c => cb_mem.mpr ⟨by rw [List.length_map, a], List.pairwise_map.mpr (by
        refine List.Pairwise.imp_of_mem ?_ b
        intro x y hx hy q
        have := h x hx
        omega), fun x hx => by
        obtain ⟨y, hy, rfl⟩ := List.mem_map.mp hx
        have := h y hy
        have := c y hy
        show y - 1 < m
        omega⟩
      cases s with
      | nil => cases h1
      | cons a r =>
        have hp := List.pairwise_cons.mp h2
        cases a with
        | zero =>
          refine .inl ⟨r.map (· - 1), mem (fun x hx => hp.1 x hx) (by simpa using h1) hp.2 fun x hx => h3 x (List.mem_cons_of_mem _ hx), ?_⟩
          rw [down fun x hx => hp.1 x hx]
        | succ a =>
          have pos : ∀ x ∈ (a + 1) :: r, 0 < x := fun x hx => by
            rcases List.mem_cons.mp hx with q | q
            · omega
            · have := hp.1 x q
              omega
          exact .inr ⟨((a + 1) :: r).map (· - 1), mem pos h1 h2 h3, down pos⟩
theorem cb_lt {m k : Nat} {s : List Nat} (h : s ∈ cb m k) : ∀ x ∈ s, x < m := (cb_mem.mp h).2.2
theorem filter_map_eq {α β : Type} {p : β → Bool} {q : α → Bool} {f : α → β} : ∀ {l : List α}, (∀ a ∈ l, p (f a) = q a) → (l.map f).filter p = (l.filter q).map f
  | [], _ => rfl
  | a :: l, h => by
    have e := h a List.mem_cons_self
    have ih := filter_map_eq (l := l) fun b hb => h b (List.mem_cons_of_mem _ hb)
    rw [List.map_cons, List.filter_cons, List.filter_cons, e, ih]
    split <;> rfl
open Classical in
/-- they are the rising lists by which all places hang together -/
theorem hgs_filter : ∀ (k : Nat) {n : Nat} {ts : List Tie}, ts.length = k → 1 ≤ n → TiesN n ts → hgs n ts = (cb ts.length (n - 1)).filter fun s => decide (Whole n (pick ts s))
  | 0, n, ts, hk, hn, _ => by
    have : ts = [] := List.length_eq_zero_iff.mp hk
    subst this
    rw [hgs_nil]
    by_cases h1 : n = 1
    · subst h1
      have w : Whole 1 (pick [] []) := fun x y hx hy => by
        have : x = y := by omega
        subst this
        exact .refl _
      rw [if_pos rfl]
      show _ = List.filter _ [[]]
      rw [List.filter_cons, if_pos (decide_eq_true w)]
      rfl
    · obtain ⟨m, rfl⟩ : ∃ m, n = m + 2 := ⟨n - 2, by omega⟩
      rw [if_neg h1]
      rfl
  | k + 1, n, [], hk, _, _ => by cases hk
  | k + 1, n, e :: ts, hk, hn, hv => by
    have hl : ts.length = k := by simpa using hk
    have hv' : TiesN n ts := fun t ht => hv t (List.mem_cons_of_mem _ ht)
    have he := hv e List.mem_cons_self
    have ih := hgs_filter k hl hn hv'
    rw [hgs_cons, ih]
    by_cases h1 : n = 1
    · subst h1
      have q : e.1 = e.2 := by omega
      rw [if_pos q, List.nil_append]
      have w : ∀ us : List Tie, Whole 1 us := fun us x y hx hy => by
        have : x = y := by omega
        subst this
        exact .refl _
      have z : ∀ m, cb m (1 - 1) = [[]] := fun m => by cases m <;> rfl
      rw [z, z, List.filter_cons, if_pos (decide_eq_true (w _)), List.filter_cons, if_pos (decide_eq_true (w _))]
      rfl
    · obtain ⟨m, rfl⟩ : ∃ m, n = m + 2 := ⟨n - 2, by omega⟩
      show _ = List.filter _ (cb (ts.length + 1) (m + 1))
      have second : (List.map up1 (cb ts.length (m + 1))).filter (fun s => decide (Whole (m + 2) (pick (e :: ts) s))) = List.map up1 ((cb ts.length (m + 2 - 1)).filter fun s => decide (Whole (m + 2) (pick ts s))) := by
        refine filter_map_eq fun s _ => ?_
        rw [pick_up]
      have first : (List.map (fun s => 0 :: up1 s) (cb ts.length m)).filter (fun s => decide (Whole (m + 2) (pick (e :: ts) s))) = if e.1 = e.2 then [] else (hgs (m + 2 - 1) (drw e ts)).map fun s => 0 :: up1 s := by
        by_cases q : e.1 = e.2
        · rw [if_pos q, List.filter_eq_nil_iff]
          intro s hs
          obtain ⟨r, hr, rfl⟩ := List.mem_map.mp hs
          rw [decide_eq_true_eq, pick_zero]
          intro w
          have := whole_len _ rfl (pick_ok hv' (cb_lt hr)) fun x y hx hy => (conn_loop q).mp (w x y hx hy)
          rw [pick_len, (cb_mem.mp hr).1] at this
          omega
        · have ih2 := hgs_filter k (n := m + 2 - 1) (ts := drw e ts) (by rw [drw_len]; exact hl) (by omega) (drw_ok q he hv')
          rw [if_neg q, ih2, drw_len]
          show _ = List.map _ ((cb ts.length m).filter _)
          refine filter_map_eq fun s hs => ?_
          rw [pick_zero, pick_drw e ts s (cb_lt hs)]
          exact decide_eq_decide.mpr (whole_drw (n := m + 2) q he).symm
      show _ = List.filter _ (List.map (fun s => 0 :: up1 s) (cb ts.length m) ++ List.map up1 (cb ts.length (m + 1)))
      rw [List.filter_append, first, second]
open Classical in
theorem hgs_mem {n : Nat} {ts : List Tie} (hn : 1 ≤ n) (hv : TiesN n ts) {s : List Nat} : s ∈ hgs n ts ↔ (s.length = n - 1 ∧ s.Pairwise (· < ·) ∧ ∀ x ∈ s, x < ts.length) ∧ Whole n (pick ts s) := by
  rw [hgs_filter _ rfl hn hv, List.mem_filter, cb_mem, decide_eq_true_eq]
/-! the order of lists -/
inductive Lx : List Nat → List Nat → Prop
  | nil {a : Nat} {r : List Nat} : Lx [] (a :: r)
  | head {a b : Nat} {r s : List Nat} : a < b → Lx (a :: r) (b :: s)
  | tail {a : Nat} {r s : List Nat} : Lx r s → Lx (a :: r) (a :: s)
theorem Lx.up {r s : List Nat} (h : Lx r s) : Lx (up1 r) (up1 s) := by
  induction h with
  | nil => exact .nil
  | head h => exact .head (Nat.succ_lt_succ h)
  | tail _ ih => exact .tail ih
theorem cb_sorted : ∀ (m k : Nat), (cb m k).Pairwise Lx
  | m, 0 => by cases m <;> exact List.pairwise_singleton _ _
  | 0, k + 1 => .nil
  | m + 1, k + 1 => by
    show (List.map (fun s => 0 :: up1 s) (cb m k) ++ List.map up1 (cb m (k + 1))).Pairwise Lx
    refine List.pairwise_append.mpr ⟨List.pairwise_map.mpr ((cb_sorted m k).imp fun h => .tail h.up), List.pairwise_map.mpr ((cb_sorted m (k + 1)).imp fun h => h.up), fun a ha b hb => ?_⟩
    obtain ⟨r, _, rfl⟩ := List.mem_map.mp ha
    obtain ⟨s, hs, rfl⟩ := List.mem_map.mp hb
    have hl := (cb_mem.mp hs).1
    cases s with
    | nil => cases hl
    | cons x s => exact .head (Nat.succ_pos x)
open Classical in
theorem hgs_sorted {n : Nat} {ts : List Tie} (hn : 1 ≤ n) (hv : TiesN n ts) : (hgs n ts).Pairwise Lx := by
  rw [hgs_filter _ rfl hn hv]
  exact (cb_sorted _ _).filter _
end Kx
namespace Kx
open Cmb
theorem up1_getD {s : List Nat} {i : Nat} (h : i < s.length) : (up1 s).getD i 0 = s.getD i 0 + 1 := by
  unfold up1
  rw [List.getD_eq_getElem?_getD, List.getD_eq_getElem?_getD, List.getElem?_map, List.getElem?_eq_getElem h]
  rfl
theorem up1_len (s : List Nat) : (up1 s).length = s.length := List.length_map ..
theorem nx_up {m : Nat} {a b : List Nat} (hl : a.length ≤ m) (h : Nx m a b) : Nx (m + 1) (up1 a) (up1 b) := by
  obtain ⟨i, h1, h2, h3, rfl⟩ := h.ex
  refine ⟨i, by rw [up1_len]; exact h1, by rw [up1_getD h1, up1_len]; omega, fun j p q => by
    rw [up1_len] at q ⊢
    rw [up1_getD q, h3 j p q]
    omega, ?_⟩
  rw [up1_len, up1_getD h1]
  unfold up1
  rw [List.map_append, List.map_map, List.map_take]
  exact congrArg _ (List.map_congr_left fun j _ => by show a.getD i 0 + 1 + j + 1 = a.getD i 0 + 1 + 1 + j; omega)
theorem nx_zero {m : Nat} {a b : List Nat} (hl : a.length ≤ m) (h : Nx m a b) : Nx (m + 1) (0 :: up1 a) (0 :: up1 b) := by
  obtain ⟨i, h1, h2, h3, rfl⟩ := h.ex
  have e : ∀ j, (0 :: up1 a).getD (j + 1) 0 = (up1 a).getD j 0 := fun j => rfl
  refine ⟨i + 1, by rw [List.length_cons, up1_len]; omega, by rw [e, up1_getD h1, List.length_cons, up1_len]; omega, fun j p q => ?_, ?_⟩
  · cases j with
    | zero => omega
    | succ j =>
      rw [List.length_cons, up1_len] at q
      rw [e, up1_getD (by omega), h3 j (by omega) (by omega), List.length_cons, up1_len]
      omega
  · rw [e, up1_getD h1, List.length_cons, up1_len, Nat.add_sub_add_right, List.take_succ_cons, List.cons_append]
    unfold up1
    rw [List.map_append, List.map_map, List.map_take]
    exact congrArg (0 :: ·) (congrArg _ (List.map_congr_left fun j _ => by show a.getD i 0 + 1 + j + 1 = a.getD i 0 + 1 + 1 + j; omega))
theorem cb_over : ∀ {m k : Nat}, m < k → cb m k = []
  | _, 0, h => absurd h (Nat.not_lt_zero _)
  | 0, k + 1, _ => rfl
  | m + 1, k + 1, h => by
    show List.map (fun s => 0 :: up1 s) (cb m k) ++ List.map up1 (cb m (k + 1)) = []
    rw [cb_over (show m < k by omega), cb_over (show m < k + 1 by omega)]
    rfl
theorem cb_first : ∀ {m k : Nat}, k ≤ m → (cb m k)[0]? = some (List.range k)
  | m, 0, _ => by cases m <;> rfl
  | 0, k + 1, h => absurd h (by omega)
  | m + 1, k + 1, h => by
    have ih := cb_first (show k ≤ m by omega)
    show (List.map (fun s => 0 :: up1 s) (cb m k) ++ List.map up1 (cb m (k + 1)))[0]? = _
    have hl : 0 < (List.map (fun s => 0 :: up1 s) (cb m k)).length := by
      rw [List.length_map]
      exact (List.getElem?_eq_some_iff.mp ih).1
    rw [List.getElem?_append_left hl, List.getElem?_map, ih, List.range_succ_eq_map]
    rfl
theorem cb_last : ∀ {m k : Nat} {l : List Nat}, (cb m k).getLast? = some l → ∀ j, j < k → l.getD j 0 = j + m - k
  | _, 0, _, _, j, h => absurd h (Nat.not_lt_zero _)
  | 0, k + 1, l, hl, _, _ => by cases hl
  | m + 1, k + 1, l, hl, j, hj => by
    have hl : (List.map (fun s => 0 :: up1 s) (cb m k) ++ List.map up1 (cb m (k + 1))).getLast? = some l := hl
    by_cases q : k + 1 ≤ m
    · have hne : cb m (k + 1) ≠ [] := fun z => by
        have := cb_first q
        rw [z] at this
        cases this
      rw [List.getLast?_append, List.getLast?_map] at hl
      cases hx : (cb m (k + 1)).getLast? with
      | none => exact absurd (List.getLast?_eq_none_iff.mp hx) hne
      | some s =>
        rw [hx] at hl
        have hl : some (up1 s) = some l := hl
        cases hl
        have hs := (cb_mem.mp (List.mem_of_getLast? hx)).1
        rw [up1_getD (by omega), cb_last hx j hj]
        omega
    · rw [cb_over (show m < k + 1 by omega), List.map_nil, List.append_nil, List.getLast?_map] at hl
      cases hx : (cb m k).getLast? with
      | none => rw [hx] at hl; cases hl
      | some s =>
        rw [hx] at hl
        cases hl
        have hs := (cb_mem.mp (List.mem_of_getLast? hx)).1
        have hkm : k ≤ m := by
          cases Nat.lt_or_ge m k with
          | inl z => rw [cb_over z] at hx; cases hx
          | inr z => exact z
        cases j with
        | zero => show 0 = _; omega
        | succ j =>
          show (up1 s).getD j 0 = _
          rw [up1_getD (by omega), cb_last hx j (by omega)]
          omega
theorem cb_next : ∀ {m k j : Nat} {a b : List Nat}, (cb m k)[j]? = some a → (cb m k)[j + 1]? = some b → Nx m a b
  | m, 0, j, a, b, _, h2 => by cases m <;> cases j <;> cases h2
  | 0, k + 1, j, a, b, h1, _ => by cases h1
  | m + 1, k + 1, j, a, b, h1, h2 => by
    have h1 : (List.map (fun s => 0 :: up1 s) (cb m k) ++ List.map up1 (cb m (k + 1)))[j]? = some a := h1
    have h2 : (List.map (fun s => 0 :: up1 s) (cb m k) ++ List.map up1 (cb m (k + 1)))[j + 1]? = some b := h2
    have hL : (List.map (fun s => 0 :: up1 s) (cb m k)).length = (cb m k).length := List.length_map ..
    by_cases q : j + 1 < (cb m k).length
    · rw [List.getElem?_append_left (by omega), List.getElem?_map] at h1 h2
      rw [List.getElem?_eq_getElem (by omega)] at h1 h2
      cases h1
      cases h2
      have hm := cb_mem.mp (List.getElem_mem (show j < (cb m k).length by omega))
      have hkm : k ≤ m := by
        cases Nat.lt_or_ge m k with
        | inl z => rw [cb_over z] at q; exact absurd q (Nat.not_lt_zero _)
        | inr z => exact z
      exact nx_zero (by omega) (cb_next (List.getElem?_eq_getElem (by omega)) (List.getElem?_eq_getElem q))
    · by_cases q2 : j + 1 = (cb m k).length
      · rw [List.getElem?_append_left (by omega), List.getElem?_map, List.getElem?_eq_getElem (show j < (cb m k).length by omega)] at h1
        rw [List.getElem?_append_right (by omega), hL, ← q2, Nat.sub_self, List.getElem?_map] at h2
        have hkm : k + 1 ≤ m := by
          cases Nat.lt_or_ge m (k + 1) with
          | inl z => rw [cb_over z] at h2; cases h2
          | inr z => exact z
        rw [cb_first hkm] at h2
        cases h1
        cases h2
        have hlast : (cb m k).getLast? = some (cb m k)[j] := by
          rw [List.getLast?_eq_getElem?, show (cb m k).length - 1 = j by omega, List.getElem?_eq_getElem (by omega)]
        have hs := (cb_mem.mp (List.mem_of_getLast? hlast)).1
        have hall := cb_last hlast
        refine ⟨0, Nat.succ_pos _, by show 0 ≠ _; rw [List.length_cons, up1_len]; omega, fun i p r => ?_, ?_⟩
        · cases i with
          | zero => omega
          | succ i =>
            rw [List.length_cons, up1_len] at r ⊢
            show (up1 _).getD i 0 = _
            rw [up1_getD (by omega), hall i (by omega)]
            omega
        · rw [List.length_cons, up1_len, hs]
          show up1 (List.range (k + 1)) = (List.range (k + 1 - 0)).map fun j => 0 + 1 + j
          exact List.map_congr_left fun i _ => by omega
      · rw [List.getElem?_append_right (by omega), List.getElem?_map] at h1 h2
        rw [hL] at h1 h2
        have h3 := h2
        cases ha : (cb m (k + 1))[j - (cb m k).length]? with
        | none => rw [ha] at h1; cases h1
        | some a' =>
          cases hb : (cb m (k + 1))[j + 1 - (cb m k).length]? with
          | none => rw [hb] at h2; cases h2
          | some b' =>
            rw [ha] at h1
            rw [hb] at h2
            cases h1
            cases h2
            have hm := cb_mem.mp (List.mem_of_getElem? ha)
            have hkm : k + 1 ≤ m := by
              cases Nat.lt_or_ge m (k + 1) with
              | inl z => rw [cb_over z] at ha; cases ha
              | inr z => exact z
            rw [show j + 1 - (cb m k).length = (j - (cb m k).length) + 1 by omega] at hb
            exact nx_up (by omega) (cb_next ha hb)
end Kx
namespace Fw
open PySem PySem.Spec PyProof.Rows L2 Evl Cmb Kx

/-! combinations(range(n), k), walked: each item a new tuple -/
def natV (l : List Nat) : List V := l.map fun (j : Nat) => V.int (j : Int)
def natD (l : List Nat) : List PyData := l.map fun (j : Nat) => PyData.int (j : Int)
def Icb (n k : Nat) : It :=
  ⟨fun i _ => i < (cb n k).length,
   fun i H v H' => ∃ T l, v = .ref T ∧ H T = none ∧ (cb n k)[i]? = some l ∧ H' = upd H T (.tup (natV l)),
   fun i _ => (cb n k).length ≤ i⟩
/-- where it stands ahead of turn i -/
def CbAt (n k : Nat) (it p : Addr) (acc : Array Value) (i : Nat) (h : Heap) : Prop :=
  it ≠ p ∧ h.IsTuple p acc ∧ ∃ st last ix, IsCmb h it p st last ix ∧ ((i = 0 ∧ st = (if k > n then 2 else 0) ∧ ix = List.range k) ∨ ∃ j, i = j + 1 ∧ st = 1 ∧ (cb n k)[j]? = some ix)
theorem nat_vals {acc : Array Value} {n : Nat} (hi : ItemsOf (fun i v => ∃ t, v = .int (0 + i * 1) t) acc n) : ∀ {l : List Nat}, (∀ x ∈ l, x < n) → Vals (natV l) (l.map fun i => acc.getD i .none)
  | [], _ => .nil
  | x :: r, h => by
    refine .cons ?_ (nat_vals hi fun y hy => h y (List.mem_cons_of_mem _ hy))
    have hx : x < acc.size := by rw [hi.1]; exact h x List.mem_cons_self
    have e : acc[x]? = some (acc.getD x .none) := by
      rw [Array.getD_eq_getD_getElem?, Array.getElem?_eq_getElem hx]
      rfl
    obtain ⟨t, ht⟩ := hi.2 x _ e
    refine ⟨t, ht.trans ?_⟩
    rw [Int.zero_add, Int.mul_one]
theorem turn_cb {P : Program} {w : World} {K : PySem.W.Frag} {tg : Expr} {n k : Nat} {it p : Addr} {acc : Array Value} (hk1 : k ≤ 1000) (hi : ItemsOf (fun i v => ∃ t, v = .int (0 + i * 1) t) acc n) :
    Turn P w K tg (Icb n k) [it, p] it (CbAt n k it p acc) where
  mem := List.mem_cons_self
  obj := fun i h st b hb => by
    obtain ⟨hne, ⟨o, ho, hc, m, hd⟩, st', last, ix, hit, _⟩ := st
    rcases List.mem_cons.mp hb with z | z
    · subst z
      exact ⟨_, hit, fun v q => nomatch q⟩
    · rw [List.mem_singleton.mp z]
      exact ⟨o, ho, fun v q => by rw [hd] at q; cases q⟩
  keep := fun i h h' st k => by
    obtain ⟨hne, hp, st', last, ix, hit, hm⟩ := st
    exact ⟨hne, hp.at fun o q => k p (List.mem_cons_of_mem _ List.mem_cons_self) o q, st', last, ix, k it List.mem_cons_self _ hit, hm⟩
  item := by
    intro X hP hw hK hc i pins s σ H E I hf st hg
    subst hP hw hK
    obtain ⟨hne, hp, st', last, ix, hit, hm⟩ := st
    have hg : i < (cb n k).length := hg
    obtain ⟨l, hl⟩ : ∃ l, (cb n k)[i]? = some l := ⟨_, List.getElem?_eq_getElem hg⟩
    have hlm := cb_mem.mp (List.mem_of_getElem? hl)
    have hsz : l.length ≤ sizeLine := by rw [hlm.1]; exact sz1000 hk1
    have fin : ∀ h', IsCmb h' it p 1 (.ref s.heap.objs.size) l → h'.get? s.heap.objs.size = some { cls := .type "tuple", data := .seq (l.map fun i => acc.getD i .none).toArray } → (∀ b o, b ≠ it → s.heap.get? b = some o → h'.get? b = some o) →
        ∃ u, some (Value.ref s.heap.objs.size) = some u ∧ wpAny (model X.prog X.w) X.A (letOwnedTupleGo tg (.ref it) u) (fun _ s2 => ∃ x H', Inv X pins σ H' s2 ∧ RelV x u ∧ (Icb n k).yld i H x H' ∧ CbAt n k it p acc (i + 1) s2.heap ∧ ∀ b ∈ [it, p], H' b = none) E { s with heap := h' } := by
      intro h' a1 a2 a3
      have nw : ObjOk X.prog X.w (upd H s.heap.objs.size (.tup (natV l))) h' s.heap.objs.size (.tup (natV l)) :=
        ⟨by unfold natV; rw [List.length_map]; exact hsz, _, nat_vals hi hlm.2.2, ⟨_, a2, rfl, _, rfl⟩⟩
      have I1 : Inv X pins σ (upd H s.heap.objs.size (.tup (natV l))) { s with heap := h' } :=
        I.turnedNew (t' := s.toks) (ch := [it, p]) (fun b ob hb q => a3 b ob (fun z => hb (by rw [z]; exact List.mem_cons_self)) q) hf (Nat.le_refl _) nw
      refine ⟨_, rfl, go_of (s := { s with heap := h' }) a1 rfl rfl (by decide) ⟨.ref s.heap.objs.size, _, I1, rfl, ⟨_, l, rfl, I.hok.fresh (Nat.le_refl _), hl, rfl⟩, ⟨hne, hp.at fun o q => a3 p o (Ne.symm hne) q, 1, _, l, a1, .inr ⟨i, rfl, rfl, hl⟩⟩, fun b hb => ?_⟩⟩
      have : b < s.heap.objs.size := by
        rcases List.mem_cons.mp hb with z | z
        · rw [z]
          exact Heap.lt_size hit
        · rw [List.mem_singleton.mp z]
          obtain ⟨_, q, _⟩ := hp
          exact Heap.lt_size q
      rw [upd_ne (Nat.ne_of_lt this)]
      exact (hf b hb).1
    rcases hm with ⟨e0, e1, e2⟩ | ⟨j, e0, e1, e2⟩
    · subst e0 e2
      have hkn : ¬ k > n := fun z => by
        rw [cb_over z] at hg
        exact absurd hg (Nat.not_lt_zero _)
      rw [if_neg hkn] at e1
      subst e1
      have h1 := cb_first (Nat.le_of_not_lt hkn)
      rw [hl] at h1
      cases h1
      exact next_first hit hp hne hsz fin
    · subst e0 e1
      have h1 := cb_next e2 hl
      rw [← hi.1] at h1
      exact next_more hit hp hne hsz h1 fin
  done := by
    intro X hP hw hK hc i pins s σ H E I hf st hg
    subst hP hw hK
    obtain ⟨hne, hp, st', last, ix, hit, hm⟩ := st
    have hg : (cb n k).length ≤ i := hg
    have hh : X.A.in1.handled = none := I.ok.hd hc
    obtain ⟨f0, f1, f2, f3, f4, f5⟩ := hf it List.mem_cons_self
    have fin : ∀ h', (∀ b o, b ≠ it → s.heap.get? b = some o → h'.get? b = some o) → (none : Option Value) = none ∧ Inv X pins σ H { s with heap := h' } := fun h' eb => ⟨rfl, I.turned (t' := s.toks) eb f0 f1 f3 f4 f5⟩
    rcases hm with ⟨e0, e1, e2⟩ | ⟨j, e0, e1, e2⟩
    · subst e0 e2
      have hkn : k > n := Nat.lt_of_not_le fun z => by
        have h1 := cb_first z
        rw [List.length_eq_zero_iff.mp (Nat.le_zero.mp hg)] at h1
        cases h1
      rw [if_pos hkn] at e1
      subst e1
      exact next_over hh hit fin
    · subst e0 e1
      have hlt := (List.getElem?_eq_some_iff.mp e2).1
      have hlast : (cb n k).getLast? = some ix := by
        rw [List.getLast?_eq_getElem?, show (cb n k).length - 1 = j by omega]
        exact e2
      have hm := cb_mem.mp (List.mem_of_getElem? e2)
      refine next_end hh hit hp (fun j hj => ?_) fin
      rw [hi.1, hm.1]
      exact cb_last hlast j (by rw [← hm.1]; exact hj)
  self := fun A i s Q E st h => by
    obtain ⟨hne, hp, st', last, ix, hit, hm⟩ := st
    exact iter_cmb hit h
theorem fpOk_young {X : Cx} {pins : List (Addr × Obj)} {σ : L2.St} {H : Hp} {s' : Shared} {b : Addr} (I : Inv X pins σ H s') (hz : X.s_0.heap.objs.size ≤ b) (hn : s'.heap.get? b = none) (hH : H b = none) : FpOk X pins H b := by
  refine ⟨hH, fun z => ?_, fun hb => ?_, .inr hz, fun x c e z => ?_, fun p hp z => ?_⟩
  · obtain ⟨m, ⟨o, es, ep, ho, _⟩, _⟩ := I.loc
    rw [← z, hn] at ho
    cases ho
  · obtain ⟨_, o, ho, _⟩ := I.ok.funs.mem hb
    exact absurd (Nat.lt_of_lt_of_le (Heap.lt_size ho) hz) (Nat.lt_irrefl _)
  · obtain ⟨v, o, ho, _⟩ := I.cell x c e
    rw [z, hn] at ho
    cases ho
  · have := (I.pin p hp).1
    rw [z, hn] at this
    cases this
theorem obj_some {P : Program} {w : World} {H : Hp} {h : Heap} {a : Addr} {o : HO} (x : ObjOk P w H h a o) : ∃ u, h.get? a = some u := by
  cases o with
  | lst xs => obtain ⟨_, _, _, _, e⟩ := x; exact ⟨_, e⟩
  | tup xs => obtain ⟨_, _, _, o, e, _⟩ := x; exact ⟨_, e⟩
  | dK kvs => obtain ⟨_, _, _, _, o, _, _, e, _⟩ := x; exact ⟨_, e⟩
  | dT kvs => obtain ⟨_, _, _, _, o, _, _, e, _⟩ := x; exact ⟨_, e⟩
  | set S n => obtain ⟨o, _, _, _, e, _⟩ := x; exact ⟨_, e⟩
  | ins C dx fs => obtain ⟨_, _, _, e, _⟩ := x; exact ⟨_, e⟩
  | own y => obtain ⟨_, e⟩ := x; exact ⟨_, e⟩
  | xd fs => obtain ⟨_, ⟨_, _, _, e, _⟩, _⟩ := x; exact ⟨_, e⟩
  | rng lo hi => obtain ⟨_, _, _, e⟩ := x; exact ⟨_, e⟩
  | frz ob u => obtain ⟨e, _⟩ := x; exact ⟨_, e⟩
  | tbl ps => exact ⟨_, (show h.get? a = some _ from x)⟩
  | met f y => exact ⟨_, (show h.get? a = some _ from x)⟩
  | ext φ => obtain ⟨_, ⟨_, e⟩, _⟩ := x; exact ⟨_, e⟩
theorem h_none {P : Program} {w : World} {H : Hp} {h : Heap} {a : Addr} (x : HOk P w H h) (n : h.get? a = none) : H a = none := by
  cases q : H a with
  | none => rfl
  | some o =>
    obtain ⟨u, e⟩ := obj_some (x a o q)
    rw [n] at e
    cases e
def iCmb (ta tb : TE) : TI := fun σ H R => ta σ H fun x H1 => ∃ n : Nat, x = .int n ∧ n ≤ 1000 ∧ tb σ H1 fun y H2 => ∃ k : Nat, y = .int k ∧ k ≤ 1000 ∧ R (Icb n k) H2
theorem pi_comb {X : Cx} {tg a b : Expr} {ta tb : TE} {p p2 pos pos2 : Pos} (hc : X.calm = true) (hg : Gl X "combinations") (hm : X.mg "combinations" = some (.type "itertools.combinations")) (hg2 : Gl X "range") (hm2 : X.mg "range" = none) (ha : PE X a ta) (hb : PE X b tb)
    (na : starEach [a] X.env = (false, eval a X.env) :: starEach [] X.env := by rfl)
    (nr : starEach [.Call (.Name "range" p2) [a] [] pos2, b] X.env = (false, eval (.Call (.Name "range" p2) [a] [] pos2) X.env) :: starEach [b] X.env := by rfl)
    (nb : starEach [b] X.env = (false, eval b X.env) :: starEach [] X.env := by rfl) (hp : (backTo pos (starEach [b] X.env)).any (·.1) = false := by rfl) :
    PI X tg (.Call (.Name "combinations" p) [.Call (.Name "range" p2) [a] [] pos2, b] [] pos) (iCmb ta tb) := by
  refine ⟨fun pins s σ H R I h => ?_⟩
  refine Call_ (ld_glob I hg hm (PyProof.Rows.callWith_type1 (args_cons ?_ nr) nr hp))
  refine Call_ (ld_blt I hg2 hm2 boot_range (PyProof.Rows.callWith_type1 (one_arg ha I h (fun v s2 x H2 I2 r q => ?_) na) na))
  obtain ⟨n, rfl, hn, q⟩ := q
  obtain ⟨t, rfl⟩ := r
  refine call_range_1 ?_
  have I3 := ClX.pin_new (t' := s2.toks + 1 + 1) I2 (fun b u e => Heap.get?_push_of_some _ e) (Nat.le_refl _) (IsRange.new s2.heap 0 (n : Int) 1 s2.toks t (s2.toks + 1)) (fun v z => nomatch z)
  refine one_arg hb I3 q (fun u s3 y H3 I4 r3 q3 => ?_) nb
  obtain ⟨k, rfl, hk, q3⟩ := q3
  obtain ⟨t', rfl⟩ := r3
  have hr := ClX.pin_at I4
  have I5 := ClX.unpin I4
  have hz : X.s_0.heap.objs.size ≤ s2.heap.objs.size := I2.sz
  have hsz : Builtin.Range.rangeSize 0 (n : Int) 1 = ((n : Nat) : Int) := by
    have := rangeSize_nat 0 (n : Int)
    rw [show ((n : Int) - 0).toNat = n by omega] at this
    exact this
  refine call_cmb hk (I4.ok.hd hc) hr (small_one (by omega) (by omega) (by omega) (by omega)) hsz hn fun h' tk' it pp acc k1 f1 f2 l1 l2 hne hi hp hit => iter_cmb hit ?_
  have I6 : Inv X pins σ H3 { s3 with heap := h', toks := tk' } := I5.kept k1
  refine ⟨it, [it, pp], _, _, H3, rfl, I6, turn_cb hk hi, ⟨hne, hp, _, _, _, hit, .inl ⟨rfl, rfl, rfl⟩⟩, fun b hb => ?_, q3⟩
  rcases List.mem_cons.mp hb with z | z
  · subst z
    exact fpOk_young I5 (Nat.le_trans hz (Nat.le_of_lt l2)) f2 (h_none I5.hok f2)
  · have z := List.mem_singleton.mp z
    subst z
    exact fpOk_young I5 (Nat.le_trans hz (Nat.le_of_lt l1)) f1 (h_none I5.hok f1)
theorem dpa_of_nats {H : Hp} : ∀ (l : List Nat), DqAll H (natV l) (natD l)
  | [] => .nil
  | _ :: r => .cons (.int _) (dpa_of_nats r)
def cbD (n k : Nat) : List PyData := (cb n k).map fun l => PyData.tuple (natD l)
theorem wk_cb {B R : Hp} {n k : Nat} : Wk B R (Icb n k) (cbD n k) where
  go := fun i R' H' _ _ _ hi => by
    unfold cbD at hi
    rw [List.length_map] at hi
    exact hi
  yld := fun i R' H' x H'' d e e1 e2 hi hy => by
    obtain ⟨T, l, rfl, hT, hl, rfl⟩ := hy
    unfold cbD at hi
    rw [List.getElem?_map, hl] at hi
    cases hi
    have hr : R' T = none := fresh_back e2 hT
    refine ⟨upd R' T (.tup (natV l)), Ex.new hr, Ex.new hT, fun b o z => ?_, fun b o z n => ?_, .tup upd_same (dpa_of_nats l)⟩
    · by_cases hb : b = T
      · subst hb
        rw [upd_same] at z ⊢
        exact z
      · rw [upd_ne hb] at z ⊢
        exact e2 b o z
    · by_cases hb : b = T
      · subst hb
        exact hT
      · rw [upd_ne hb, n] at z
        cases z
  stop := fun i R' H' _ _ _ hi => by
    unfold cbD at hi
    rw [List.length_map] at hi
    exact hi
def iCb (fa fb : WF) : AF := fun env => match fa env with
  | some (.int n, e1) => if 0 ≤ n ∧ n ≤ 1000 then (match fb e1 with
    | some (.int k, e2) => if 0 ≤ k ∧ k ≤ 1000 then some (cbD n.toNat k.toNat, e2) else none
    | _ => none) else none
  | _ => none
theorem qi_comb {X : Cx} {tg a b : Expr} {fa fb : WF} {p p2 pos pos2 : Pos} (hc : X.calm = true) (hg : Gl X "combinations") (hm : X.mg "combinations" = some (.type "itertools.combinations")) (hg2 : Gl X "range") (hm2 : X.mg "range" = none) (ha : PE X a (tW fa)) (hb : PE X b (tW fb))
    (na : starEach [a] X.env = (false, eval a X.env) :: starEach [] X.env := by rfl)
    (nr : starEach [.Call (.Name "range" p2) [a] [] pos2, b] X.env = (false, eval (.Call (.Name "range" p2) [a] [] pos2) X.env) :: starEach [b] X.env := by rfl)
    (nb : starEach [b] X.env = (false, eval b X.env) :: starEach [] X.env := by rfl) (hp : (backTo pos (starEach [b] X.env)).any (·.1) = false := by rfl) :
    PI X tg (.Call (.Name "combinations" p) [.Call (.Name "range" p2) [a] [] pos2, b] [] pos) (tI (iCb fa fb)) := PI.imp (pi_comb hc hg hm hg2 hm2 ha hb na nr nb hp) fun σ H Q ⟨B, H0, R0, R, env, xs, e1, S, hf, k⟩ => by
  unfold iCb at hf
  split at hf
  · rename_i n e2 h1
    split at hf
    · rename_i hn
      split at hf
      · rename_i m e3 h2
        split at hf
        · rename_i hm
          cases hf
          refine ⟨B, H0, R0, R, env, _, _, S, h1, fun v R1 H1 S1 i1 j1 t1 => ?_⟩
          have ev := top_int t1
          subst ev
          refine ⟨n.toNat, by rw [Int.toNat_of_nonneg hn.1], by omega, B, H0, R0, R1, e2, _, _, S1, h2, fun u R2 H2 S2 i2 j2 t2 => ?_⟩
          have eu := top_int t2
          subst eu
          exact ⟨m.toNat, by rw [Int.toNat_of_nonneg hm.1], by omega, k _ R2 H2 S2 (i1.trans i2) (j1.trans j2) wk_cb⟩
        · cases hf
      · cases hf
    · cases hf
  · cases hf
end Fw
namespace Fw
open PySem PySem.Spec PyProof.Rows L2 Evl
/-! a comprehension over up to 10,000 items -/
def eLcB (fi : AF) (g : GF) (ft : TF) (fe : EF) (vs : List Nat) : EF := fun env => match fi env with
  | none => none
  | some (xs, e1) => if xs.length ≤ 10000 then (match lcLoop g ft fe vs xs (wipeE e1 vs) with
    | none => none
    | some (ds, e2) => some (.list ds, true, e2)) else none
section
variable {X : Cx} {e a b : Expr} {pos : Pos} {f g : SF} {fe : EF} {fw : WF} {ft : TF}
theorem lcB_ok {fi : AF} {js vs : List Nat} {g : GF} (hjs : ∀ j ∈ js, j ∈ vs) {σ : L2.St} {H : Hp} {Q : VK} (q : tE (eLcB fi g ft fe vs) σ H Q) : tLc (tIb fi) (tG js g) (tT ft) (tE fe) vs σ H Q := by
  obtain ⟨B, H0, R0, R, env, d, fr, env', S, hf, k⟩ := q
  unfold eLcB at hf
  cases hq : fi env with
  | none => rw [hq] at hf; cases hf
  | some r =>
    obtain ⟨xs, e1⟩ := r
    rw [hq] at hf
    simp only at hf
    split at hf
    · rename_i hz
      cases hq2 : lcLoop g ft fe vs xs (wipeE e1 vs) with
      | none => rw [hq2] at hf; cases hf
      | some r =>
        obtain ⟨ds, e2⟩ := r
        rw [hq2] at hf
        cases hf
        refine ⟨B, H0, R0, R, env, xs, e1, S, hq, fun J R1 H1 S1 i1 j1 w Dl hD => ?_⟩
        obtain ⟨nR, n0, nA⟩ := S1.fresh hD
        have nR0 : R0 Dl = none := fresh_back S1.r0 nR
        have tot : ∀ acc rest : List PyData, acc ++ rest = ds → True := fun _ _ _ => trivial
        refine ⟨fun i m H' => m = xs.length - i ∧ i ≤ xs.length ∧ ∃ R' e' acc wsV rest, SRel B H0 R0 R' H' (L2.wipe σ vs) e' ∧ Ex R1 R' ∧ Ex H1 H' ∧ R' Dl = none ∧ Apart (L2.wipe σ vs) e' Dl ∧ H' Dl = some (.lst wsV) ∧ DqAll R' wsV acc ∧
          lcLoop g ft fe vs (xs.drop i) e' = some (rest, env') ∧ acc ++ rest = ds ∧ acc.length ≤ i, ⟨xs.length, by simp, Nat.zero_le _, R1, wipeE e1 vs, [], [], ds, ?_, Ex.refl R1, Ex.new hD, nR, ?_, upd_same, .nil, hq2, rfl, Nat.le_refl _⟩, ?_⟩
        · exact ((S1.wipe vs).other nR n0 ((S1.wipe vs).fresh hD).2.2)
        · exact ((S1.wipe vs).fresh hD).2.2
        · rintro i m H' ⟨rfl, hi, R', e', acc, wsV, rest, S', i2, j2, nR', nA', hD', hacc, hl, hrest, hai⟩
          by_cases hlt : i < xs.length
          · refine .inr ⟨w.go i R' H' j2 i2 S'.rh hlt, fun H2 => ∃ R2 e2 acc wsV rest, SRel B H0 R0 R2 H2 (L2.wipe σ vs) e2 ∧ Ex R1 R2 ∧ Ex H1 H2 ∧ R2 Dl = none ∧ Apart (L2.wipe σ vs) e2 Dl ∧ H2 Dl = some (.lst wsV) ∧ DqAll R2 wsV acc ∧
              lcLoop g ft fe vs (xs.drop (i + 1)) e2 = some (rest, env') ∧ acc ++ rest = ds ∧ acc.length ≤ i + 1, fun H2 ⟨R2, e2, acc2, ws2, rest2, h2⟩ => ⟨xs.length - (i + 1), by omega, rfl, hlt, R2, e2, acc2, ws2, rest2, h2⟩, fun x H'' hy => ?_⟩
            obtain ⟨R'', a1, a2, a3, a4, a5⟩ := w.yld i R' H' x H'' xs[i] j2 i2 S'.rh (List.getElem?_eq_getElem hlt) hy
            have S'' := (S'.raise hD' nR' nA').growR a2 a1 a3 (fun b o q z => a4 b o q z)
            rw [List.drop_eq_getElem_cons hlt] at hl
            unfold lcLoop at hl
            split at hl
            · cases hl
            · rename_i e3 h3
              refine ⟨B, _, R0, R'', e', xs[i], e3, S'', a5, h3, fun σ3 S3 n3 l3 => ?_⟩
              have hw3 : L2.wipe σ3 vs = L2.wipe σ vs := wipe_agree hjs (l3.trans (wipe_length σ vs)) n3
              refine ⟨hw3, ?_⟩
              split at hl
              · cases hl
              · rename_i e4 h4
                refine ⟨B, _, R0, R'', e3, true, e4, S3, h4, fun R5 H5 S5 i5 j5 => iteT ?_⟩
                split at hl
                · cases hl
                · rename_i dd frr e6 h6
                  split at hl
                  · cases hl
                  · rename_i rest' e7 h7
                    cases hl
                    refine ⟨B, _, R0, R5, e4, dd, frr, e6, S5, h6, fun y R6 H6 S6 i6 j6 r6 => ?_⟩
                    obtain ⟨R7, i7, S7, hd7⟩ := r6.share S6
                    obtain ⟨p1, p2, p3⟩ := S7.held nR0
                    have S8 : SRel B (upd H0 Dl (.lst wsV)) R0 R7 H6 (L2.wipe σ vs) (wipeE e6 vs) := by rw [← hw3]; exact S7.wipe vs
                    have big : Ex R' R7 := ((a1.trans i5).trans i6).trans i7
                    refine ⟨wsV, p1, ?_, R7, wipeE e6 vs, acc ++ [dd], wsV ++ [y], rest', ?_, i2.trans big, Ex.mut (((j2.trans a2).trans j5).trans j6) hD, p2, (S8.held nR0).2.2, upd_same, dpa_app (dpa_mono big hacc) (.cons hd7 .nil), h7, ?_, ?_⟩
                    · rw [dpa_len hacc]
                      exact Nat.lt_of_le_of_lt (show acc.length ≤ 10000 by omega) (by decide)
                    · exact (S8.lower S1.bb (Ex.new n0)).other p2 n0 (S8.held nR0).2.2
                    · rw [List.append_assoc]
                      exact hrest
                    · rw [List.length_append]
                      exact Nat.succ_le_succ hai
              · rename_i e4 h4
                refine ⟨B, _, R0, R'', e3, false, e4, S3, h4, fun R5 H5 S5 i5 j5 => iteF ?_⟩
                obtain ⟨p1, p2, p3⟩ := S5.held nR0
                have S8 : SRel B (upd H0 Dl (.lst wsV)) R0 R5 H5 (L2.wipe σ vs) (wipeE e4 vs) := by rw [← hw3]; exact S5.wipe vs
                have big : Ex R' R5 := a1.trans i5
                exact ⟨R5, wipeE e4 vs, acc, wsV, rest, S8.lower S1.bb (Ex.new n0), i2.trans big, (j2.trans a2).trans j5, p2, (S8.held nR0).2.2, p1, dpa_mono big hacc, hl, hrest, by omega⟩
          · rw [List.drop_eq_nil_of_le (by omega)] at hl
            unfold lcLoop at hl
            cases hl
            rw [List.append_nil] at hrest
            subst hrest
            refine .inl ⟨w.stop i R' H' j2 i2 S'.rh (by omega), ?_⟩
            refine k _ R' H' S'.unwipe (i1.trans i2) (j1.trans j2) ⟨Dl, wsV, acc, rfl, rfl, hD', nR', n0, hacc, fun j x q z => ?_⟩
            obtain ⟨c, ws, es, _, g1, _⟩ := S'.own j x q
            have g2 := (wipe_some g1).1
            rw [z] at g2
            cases g2
            exact nA' j x q g1
    · cases hf
theorem qe_lcB {elt tg iter : Expr} {ifs : List Expr} {scope : Scope} {own : List (Str × Nat)} {fi : AF} {gt : GF} {js vs : List Nat} (hc : X.calm = true) (hN : X.N.Nodup) (hi : PI X tg iter (tIb fi)) (ok : BlkOk X.N X.env.scope scope own)
    (hg : ∀ (s : Shared) (H : Hp) (C : Addr) (cl : List (Str × Addr)) (fp : List Addr), PG (X.blk s H scope (compEnvC scope cl C X.env) fp) tg (tG js gt)) (ht : ∀ (s : Shared) (H : Hp) (C : Addr) (cl : List (Str × Addr)) (fp : List Addr), PTs (X.blk s H scope (compEnvC scope cl C X.env) fp) ifs (tT ft))
    (he : ∀ (s : Shared) (H : Hp) (C : Addr) (cl : List (Str × Addr)) (fp : List Addr), PE (X.blk s H scope (compEnvC scope cl C X.env) fp) elt (tE fe)) (hjs : ∀ j ∈ js, j ∈ vs) (hv : own.map (·.2) = vs := by rfl) (hs : ∀ x, foldedSetIterable iter X.env x = pure x := by intro _; rfl) :
    PE X (.ListComp elt [⟨tg, iter, ifs, 0⟩] scope pos) (tE (eLcB fi gt ft fe vs)) := PE.imp (pe_lc hc hN hi ok hg ht he hs) fun σ H Q q => by subst hv; exact lcB_ok hjs q
end
end Fw
namespace Fw
open PySem PySem.Spec PyProof.Rows L2 Evl
/-! a longer list of short lists, each of them new -/
def NewS (H1 H : Hp) (v : V) : Prop := ∃ (b : Addr) (ns : List Int), v = .ref b ∧ H b = some (.lst (ns.map V.int)) ∧ ns.length < 20 ∧ H1 b = none
theorem NewS.mono {H1 H H' : Hp} {v : V} (e : Ex H H') (h : NewS H1 H v) : NewS H1 H' v := by
  obtain ⟨b, ns, h1, h2, h3, h4⟩ := h
  exact ⟨b, ns, h1, e _ _ h2, h3, h4⟩
theorem new_ofS {R R' H1 H : Hp} (hr : Ex R' H) (hn : ∀ b o, R' b = some o → tupsOf R b = none → H1 b = none) {v : V} {ns : List Int} (hl : ns.length < 20) (hx : Ex (tupsOf R) R') (h : Dq R' v (.list (ns.map .int))) : NewS H1 H v := by
  cases h with
  | @lst a xs ds e q =>
    have ev := dpa_ints q
    subst ev
    refine ⟨a, ns, rfl, hr _ _ e, hl, hn a _ e ?_⟩
    cases hq : tupsOf R a with
    | none => rfl
    | some o =>
      have h2 := hx a o hq
      have e' : R' a = some (.lst (ns.map V.int)) := e
      rw [e'] at h2
      cases h2
      exact absurd hq tups_no
section
variable {X : Cx}
theorem priv_forS {K : PySem.W.Frag} {c : TF} {tr : TS} {l i : Nat} {z : Int} {D : Ends} {σ : L2.St} {H1 H : Hp} {a : Addr} {vs : List V} (hli : l ≠ i) (hs : i < σ.length) (hl : σ[l]? = some (some (.ref a))) (e : Ex H1 H) (ha : H a = some (.lst vs))
    (hvl : vs.length ≤ 900) (hna : ∀ ns : List Int, ns ≠ [] → vs ≠ ns.map V.int) (hin : ∀ v ∈ vs, NewS H1 H v)
    (hc : ∀ (ns : List Int) (env : En), ns.length < 1000 → env = (List.replicate σ.length none).set i (some (.list (ns.map .int), false)) → ∃ e', c env = some (false, e'))
    (hD : ∀ σ2 H2, (∀ j, j ∉ [i] → σ2[j]? = σ[j]?) → σ2.length = σ.length → Ex H1 H2 → H2 a = some (.lst vs) → D.nx σ2 H2) :
    tFor (iList K (tVar l)) (gName i) (tSeq (tIfS (tT c) tr tNext) (tDrop (tBM K "list" rAppend (tVar i) (tCons (tC (.int z)) tNil)))) D σ H := by
  refine ⟨_, hl, a, rfl, ⟨vs, .inl (.inl ha)⟩, ?_⟩
  refine for_list (xs := vs) (fun k σ2 H2 => (∀ j, j ∉ [i] → σ2[j]? = σ[j]?) ∧ σ2.length = σ.length ∧ Ex H1 H2 ∧ H2 a = some (.lst vs) ∧ ∀ j v, vs[j]? = some v → ∃ (b : Addr) (ns : List Int), v = V.ref b ∧ H2 b = some (.lst (ns.map V.int)) ∧ ns.length < 20 + k ∧ H1 b = none)
    ⟨fun _ _ => rfl, rfl, e, ha, fun j v hj => (show NewS H1 H v from hin v (List.mem_of_getElem? hj))⟩ (fun k σ2 H2 _ hp => .inl (.inl hp.2.2.2.1)) (fun k x σ2 H2 hx hp => ?_) fun σ2 H2 hp => hD σ2 H2 hp.1 hp.2.1 hp.2.2.1 hp.2.2.2.1
  obtain ⟨h1, h2, h3, h4, h5⟩ := hp
  obtain ⟨b, ns, rfl, hb, hn, hb1⟩ := h5 k x hx
  have hk : k < vs.length := (List.getElem?_eq_some_iff.mp hx).1
  have hi2 : i < σ2.length := by rw [h2]; exact hs
  have hget : (σ2.set i (some (V.ref b)))[i]? = some (some (V.ref b)) := List.getElem?_set_self hi2
  obtain ⟨e', he'⟩ := hc ns _ (by omega) rfl
  refine ⟨nil, nil, nil, H2, _, false, e', adhoc ?_ (fun j d bb q => ?_), he', fun R' H3 S3 _ e3 => iteF ?_⟩
  · rw [List.length_set, List.length_set, List.length_replicate, h2]
  · by_cases hj : j = i
    · subst hj
      rw [List.getElem?_set_self (by rw [List.length_replicate]; exact hs)] at q
      cases q
      exact ⟨rfl, _, hget, .lst hb (dpa_of_ints ns)⟩
    · rw [List.getElem?_set_ne (Ne.symm hj), List.getElem?_replicate] at q
      split at q <;> cases q
  · have hb3 := e3 b _ hb
    refine ⟨_, hget, .inl ⟨rfl, _, .inl (.inl hb3)⟩, b, ns.map V.int, .int z, rfl, rfl, hb3, ?_, fun j hj => ?_, ?_, Ex.mut (h3.trans e3) hb1, ?_, fun j v hj => ?_⟩
    · rw [List.length_map]
      exact Nat.lt_of_lt_of_le (show ns.length < 1000 by omega) (by decide)
    · have : j ≠ i := fun z => hj (by rw [z]; exact List.mem_singleton.mpr rfl)
      rw [List.getElem?_set_ne (Ne.symm this)]
      exact h1 j hj
    · rw [List.length_set]
      exact h2
    · have hab : a ≠ b := fun z => by
        subst z
        rw [h4] at hb
        have hq := HO.lst.inj (Option.some.inj hb)
        refine hna ns (fun zz => ?_) hq
        rw [hq, zz] at hk
        exact absurd hk (Nat.not_lt_zero _)
      rw [upd_ne hab]
      exact e3 a _ h4
    · obtain ⟨b', ns', rfl, q1, q2, q3⟩ := h5 j v hj
      by_cases hbb : b' = b
      · subst hbb
        refine ⟨b', ns ++ [z], rfl, ?_, ?_, hb1⟩
        · rw [upd_same, List.map_append]
          rfl
        · rw [List.length_append]
          exact Nat.succ_lt_succ hn
      · refine ⟨b', ns', rfl, ?_, by omega, q3⟩
        rw [upd_ne hbb]
        exact e3 b' _ q1
end
theorem call_newS {R H : Hp} {ms : List Bool} {vs : List V} {ds : List PyData} {g : List PyData → Option (PyData × Bool)} {rows : List (List Int)} {Q : VK} {E : XK} (e : Ex R H) (ha : ArgAll (tupsOf R) H ms vs ds) (hg : g ds = some (.list (rows.map fun l => .list (l.map .int)), true)) (hl : ∀ l ∈ rows, l.length < 20)
    (k : ∀ a ws Hn, Ex H Hn → Hn a = some (.lst ws) → H a = none → ws.length = rows.length → (∀ v ∈ ws, NewS H Hn v) → Dq Hn (.ref a) (.list (rows.map fun l => .list (l.map .int))) → Q (.ref a) Hn) : spD g ms vs H Q E := by
  refine ⟨tupsOf R, ds, _, true, (tups_ex R).trans e, ha, hg, fun v Rn Hn e1 e2 e3 hnew hres => ?_⟩
  obtain ⟨a, ws, es, rfl, hds, hHa, hRa, hHa0, hall⟩ := hres
  cases hds
  refine k a ws Hn e2 hHa hHa0 (by rw [dpa_len hall, List.length_map]) (fun v hv => ?_) (.lst hHa (dpa_mono e3 hall))
  obtain ⟨j, hj, rfl⟩ := List.mem_iff_getElem.mp hv
  obtain ⟨d, hd1, hd2⟩ := dpa_get' hall (List.getElem?_eq_getElem hj)
  rw [List.getElem?_map] at hd1
  cases hp : rows[j]? with
  | none => rw [hp] at hd1; cases hd1
  | some l =>
    rw [hp] at hd1
    cases hd1
    exact new_ofS (R := R) e3 hnew (hl l (List.mem_of_getElem? hp)) e1 hd2
theorem new_nointsS {H1 H : Hp} {vs : List V} (hin : ∀ v ∈ vs, NewS H1 H v) (ns : List Int) (hne : vs ≠ []) : vs ≠ ns.map V.int := fun e => by
  cases vs with
  | nil => exact hne rfl
  | cons v r =>
    obtain ⟨b, _, hb, _⟩ := hin v List.mem_cons_self
    cases ns with
    | nil => cases e
    | cons i t =>
      rw [List.map_cons] at e
      have := (List.cons.inj e).1
      rw [hb] at this
      cases this
end Fw
namespace Fw
open PySem PySem.Spec PyProof.Rows L2 Evl
/-! try: e, its value dropped; except C: a suite that asks nothing of the exception -/
def sTryR (cn : Str) (fx : EFX) (fh : SF) : SF := fun env => match fx env with
  | some (.val _ _, e1) => .nx e1
  | some (.exc c, _) => if c = cn then fh env else .bad
  | none => .bad
section
variable {X : Cx}
theorem qs_tryR {e : Expr} {fx : EFX} {fh : SF} {cn : Str} {C : Addr} {b₀ : Stmt} {suite : List Stmt} {p1 np pos pos' : Pos} (hs : X.stack = X.env :: X.outer) (hf : X.env.frame = some X.env.locals) (gC : Gl X cn) (mC : X.mg cn = some (.ref C)) (hex : PySem.W.exmOne X.K (.ref C) (.ref C) = some true)
    (hb : ∀ (W : WX) (pn : List (Addr × Obj)) (xe : Value → Shared → Prop), L2N.Takes (X.tr pn xe) W → PE (X.tr pn xe) e (tEX X.mg (WE W) fx))
    (hsu : ∀ (a : Addr) (oe : Obj) (pn : List (Addr × Obj)), PSs (X.suite a ((a, oe) :: pn)) (b₀ :: suite) (tS fh)) (hsw : ∀ (pn : List (Addr × Obj)) (xe : Value → Shared → Prop), swapsWith e none p1.line (X.tr pn xe).env = pure false := by intro _ _; rfl) (hdb : (cn == ("__debug__" : Str)) = false := by decide) :
    PS X (.Try [.Expr e p1] [.ExceptHandler (some (.Name cn np)) none (b₀ :: suite) pos'] [] [] pos) (tS (sTryR cn fx fh)) := by
  refine PS.imp (L2N.ps_try_many (tb := fun W => tDrop (tEX X.mg (WE W) fx)) (Wout := fun _ _ _ _ => False) (l := [(.ref C, fun _ _ _ => tS fh)]) hs hf takesN (fun W pn xe tk _ => pss_one (ps_expr (hb W pn xe tk) (hsw pn xe)))
    (.cons ⟨gC, hdb, .inl mC⟩ (fun a oe cls d pn _ _ => hsu a oe pn) .nil)) fun D σ H ⟨B, H0, R0, R, env, S, q⟩ => ?_
  refine ⟨B, H0, R0, R, env, S, ?_⟩
  unfold sTryR at q
  cases hq : fx env with
  | none => rw [hq] at q; exact q.elim
  | some r =>
    obtain ⟨r, e1⟩ := r
    rw [hq] at q
    cases r with
    | val d fr => exact fun v R' H' S' i j r => q σ R' H' S' i
    | exc c =>
      simp only at q ⊢
      by_cases hc : c = cn
      · rw [if_pos hc] at q
        intro H' v ej hm
        rw [hc, mC] at hm
        cases hm
        exact ⟨true, hex, fun _ a _ => ⟨B, H0, R0, R, env, S.grow ej, q⟩, fun z => nomatch z⟩
      · rw [if_neg hc] at q
        exact q.elim
end
theorem v_tryR {cn : Str} {fx : EFX} {fh : SF} {env e1 : En} {o : Out} (h : fx env = some (.exc cn, e1)) (h2 : fh env = o) : sTryR cn fx fh env = o := by
  unfold sTryR
  rw [h]
  simp only [if_pos]
  exact h2
/-! how many rising lists there are -/
def chs : Nat → Nat → Nat
  | _, 0 => 1
  | 0, _ + 1 => 0
  | m + 1, k + 1 => chs m k + chs m (k + 1)
theorem cb_chs : ∀ m k : Nat, (Kx.cb m k).length = chs m k
  | m, 0 => by cases m <;> rfl
  | 0, k + 1 => rfl
  | m + 1, k + 1 => by
    show (List.map (fun s => 0 :: Kx.up1 s) (Kx.cb m k) ++ List.map Kx.up1 (Kx.cb m (k + 1))).length = chs m k + chs m (k + 1)
    rw [List.length_append, List.length_map, List.length_map, cb_chs m k, cb_chs m (k + 1)]
set_option maxHeartbeats 4000000 in
theorem chs_few : ∀ m, m < 17 → ∀ k, k < 7 → chs m k ≤ 10000 := by decide +kernel
theorem cb_many {m k : Nat} (hm : m ≤ 16) (hk : k ≤ 6) : (Kx.cb m k).length ≤ 10000 := by
  rw [cb_chs]
  exact chs_few m (by omega) k (by omega)
theorem v_lcB {env e1 e2 : En} {c : TF} {f : EF} {ds : List PyData} {fi : AF} {g : GF} {vs : List Nat} {xs : List PyData} (h : fi env = some (xs, e1)) (hl : xs.length ≤ 10000) (h2 : lcLoop g c f vs xs (wipeE e1 vs) = some (ds, e2)) : eLcB fi g c f vs env = some (.list ds, true, e2) := by
  unfold eLcB
  rw [h]
  simp only
  rw [if_pos hl, h2]
end Fw
namespace Fw
open PySem PySem.Spec PyProof.Rows L2 Evl
/-! an empty dict that nobody fills -/
section
variable {R H : Hp} {Q : VK}
theorem Cont.nowD {p : Addr} (e : Ex R H) (h : Cont R H (.dict []) false Q) (hp : H p = none) : Q (.ref p) (upd H p (.dK [])) := by
  have hr : R p = none := fresh_back e hp
  refine h _ (upd R p (.dK [])) _ (Ex.new hr) (Ex.new hp) (fun b o q => ?_) (fun b o q n => ?_) (.d0 upd_same)
  · by_cases hb : b = p
    · subst hb
      rw [upd_same] at q ⊢
      exact q
    · rw [upd_ne hb] at q ⊢
      exact e b o q
  · by_cases hb : b = p
    · subst hb
      exact hp
    · rw [upd_ne hb, n] at q
      cases q
end
def eDict0 : EF := fun env => some (.dict [], false, env)
theorem qe_dict0 {X : Cx} {pos : Pos} : PE X (.Dict [] [] pos) (tE eDict0) := PE.imp pe_dnewK fun σ H Q q => by
  obtain ⟨B, H0, R0, R, env, d, fr, env', S, hf, k⟩ := q
  cases hf
  exact fun p hp => Cont.nowD S.rh (S.cont fun v R' H' S' e1 e2 r => k v R' H' S' e1 e2 r) hp
theorem v_dict0 {env : En} : eDict0 env = some (.dict [], false, env) := rfl
/-! str(x) over data -/
def strTx : PyData → Str
  | .str x => x
  | d => d.shown
def strAt : PyData → Bool
  | .dict [] => true
  | .str _ => true
  | d => d.canLay0 && decide (d.depth ≤ 60) && d.showable && decide (d.shown.length ≤ sizeLine)
/-- a number and an empty dict -/
def pairD : PyData → Bool
  | .tuple [.int i, .dict []] => decide (i.natAbs < 1000)
  | _ => false
theorem pair_of {d : PyData} (h : pairD d = true) : ∃ i : Int, d = .tuple [.int i, .dict []] ∧ i.natAbs < 1000 := by
  unfold pairD at h
  split at h
  · exact ⟨_, rfl, of_decide_eq_true h⟩
  · cases h
mutual
theorem lay_nodict : ∀ {d : PyData}, d.canLay0 = true → d.hasDict = false
  | .none, _ => rfl
  | .bool _, _ => rfl
  | .int _, _ => rfl
  | .str _, _ => rfl
  | .list ds, h => by
    have := lays_nodict (ds := ds) (by simpa [PyData.canLay0] using h)
    simpa [PyData.hasDict] using this
  | .tuple ds, h => by
    have := lays_nodict (ds := ds) (by simpa [PyData.canLay0] using h)
    simpa [PyData.hasDict] using this
  | .dict _, h => by simp [PyData.canLay0] at h
theorem lays_nodict : ∀ {ds : List PyData}, PyData.canLayAll0 ds = true → PyData.hasDictAll ds = false
  | [], _ => rfl
  | d :: ds, h => by
    have h' := Bool.and_eq_true_iff.mp (by simpa [PyData.canLayAll0] using h)
    simp [PyData.hasDictAll, lay_nodict h'.1, lays_nodict h'.2]
end
def rStrD (K : PySem.W.Frag) : List V → Hp → VK → Prop := fun vs H Q => ∃ v d, vs = [v] ∧ Dq H v d ∧ (strAt d || pairD d) = true ∧ Q (.str (strTx d)) H
theorem call_strD {X : Cx} (hg : X.A.guards = some []) (hu : X.A.units + 80 < cLine) : CallR X (.type "str") (rStrD X.K) := by
  intro pins s σ H xs us Q I rs h
  obtain ⟨v, d, rfl, hd, hs, q⟩ := h
  obtain ⟨u, rfl, r⟩ := rs.one
  have go : ∀ {a : Addr} {as : List Addr}, Reads s.heap (.ref a) d as → (d.hasDict = true → sysModules ∉ as) → d.depth ≤ 60 → d.showable = true → d.shown.length ≤ sizeLine → strTx d = d.shown → wpAny (model X.prog X.w) X.A (call (.type "str") [.ref a]) (EP X pins σ Q) X.xe s := fun {a as} rd hm hdp hsh hsz he =>
    str_of_reads rd hsh hm hg (by omega) (fun _ _ e => e) (fun h' w tk hk => ⟨.str _, H, I.kept hk, ⟨w, rfl⟩, by rw [← he]; exact q⟩) hsz
  by_cases hpd : pairD d = true
  · obtain ⟨i, rfl, hi⟩ := pair_of hpd
    cases hd with
    | @tup a xs _ e q4 =>
      cases q4 with
      | cons q5 q6 =>
        cases q5
        cases q6 with
        | cons q7 q8 =>
          cases q8
          cases q7 with
          | @d0 b e2 =>
            cases r
            obtain ⟨hz, its, rv, ob, ho, hcl, n0, hda⟩ := I.hok _ _ e
            obtain ⟨_, hsys, vs, hkv, o, es, ep, ho2, hex, hda2, hks, hps, _⟩ := I.hok _ _ e2
            cases hkv
            have hes : es.toList = [] := by
              cases hq : es.toList with
              | nil => rfl
              | cons x y => rw [hq] at hps; cases hps
            cases rv with
            | cons r1 r2 =>
              obtain ⟨t, rfl⟩ := r1
              cases r2 with
              | cons r3 r4 =>
                cases r4
                cases r3
                have rd1 := Reads.dict (h := s.heap) (a := b) (o := o) (es := es) (n := ep) (kvs := []) (as := []) (bs := []) ho2 hex.1 hda2 (by rw [hes]; exact .nil) (by rw [hes]; exact .nil)
                have rd : Reads s.heap (.ref a) (.tuple [.int i, .dict []]) ([] ++ ([b] ++ [] ++ [] ++ [])) := Reads.tuple ho hcl hda (.cons (.int i t) (.cons rd1 .nil))
                have hsh : PyData.showable (.tuple [.int i, .dict []]) = true := by
                  have : i.natAbs.log2 < 1920 := by
                    by_cases z : i.natAbs = 0
                    · rw [z]
                      decide
                    · exact Nat.lt_trans ((Nat.log2_lt (k := 10) z).mpr (Nat.lt_trans hi (by decide))) (by decide)
                  simp [PyData.showable, PyData.showableAll, PyData.showableKv, this]
                refine go rd (fun _ hm => ?_) (by simp [PyData.depth, PyData.depthAll, PyData.depthKv]) hsh ?_ rfl
                · have : sysModules = b := by simpa using hm
                  rw [← this] at hsys
                  exact absurd hsys (by simp)
                · have h1 := PyData.shown_int_le (i := i) (Nat.lt_trans hi (by decide))
                  have h2 : (PyData.shown (.dict [])).length ≤ 2 := by decide +kernel
                  have h3 := tupleText_len_le [PyData.shown (.int i), PyData.shown (.dict [])]
                  have h4 : (PyData.shown (.tuple [.int i, .dict []])) = tupleText [PyData.shown (.int i), PyData.shown (.dict [])] := rfl
                  rw [h4, sizeLine_eq]
                  simp only [List.map_cons, List.map_nil, List.sum_cons, List.sum_nil, List.length_cons, List.length_nil] at h3
                  omega
  rw [Bool.not_eq_true] at hpd
  rw [hpd, Bool.or_false] at hs
  cases d with
  | none =>
    cases hd
    cases r
    exact PySem.P.str_of_none ⟨.str _, H, I.tok _, ⟨_, rfl⟩, q⟩
  | bool b =>
    cases hd
    cases r
    exact PySem.P.str_of_bool ⟨.str _, H, I.tok _, ⟨_, rfl⟩, q⟩
  | int i =>
    cases hd
    obtain ⟨t, rfl⟩ := r
    simp only [strAt, Bool.and_eq_true, decide_eq_true_eq] at hs
    have hi : i.natAbs.log2 < 1920 := by
      have := hs.1.2
      simpa [PyData.showable] using this
    exact PySem.P.str_of_int hi ⟨.str _, H, I.tok _, ⟨_, rfl⟩, q⟩
  | str x =>
    cases hd
    obtain ⟨t, rfl⟩ := r
    exact PySem.P.str_of_str ⟨.str _, H, I, ⟨_, rfl⟩, q⟩
  | list ds =>
    simp only [strAt, Bool.and_eq_true, decide_eq_true_eq] at hs
    obtain ⟨as, rd⟩ := Dp.reads I _ _ _ (dq_dp hs.1.1.1 hd) r
    cases hd
    cases r
    exact go rd (fun z => by rw [lay_nodict hs.1.1.1] at z; cases z) hs.1.1.2 hs.1.2 hs.2 rfl
  | tuple ds =>
    simp only [strAt, Bool.and_eq_true, decide_eq_true_eq] at hs
    obtain ⟨as, rd⟩ := Dp.reads I _ _ _ (dq_dp hs.1.1.1 hd) r
    cases hd
    cases r
    exact go rd (fun z => by rw [lay_nodict hs.1.1.1] at z; cases z) hs.1.1.2 hs.1.2 hs.2 rfl
  | dict kvs =>
    cases kvs with
    | cons p r2 => simp [strAt, PyData.canLay0] at hs
    | nil =>
      cases hd with
      | @d0 a e =>
        cases r
        obtain ⟨_, hsys, vs, hkv, o, es, ep, ho, hex, hda, hks, hps, _⟩ := I.hok _ _ e
        cases hkv
        have hes : es.toList = [] := by
          cases hq : es.toList with
          | nil => rfl
          | cons x y => rw [hq] at hps; cases hps
        refine go (as := [a]) ?_ (fun _ hm => ?_) (by decide +kernel) rfl (by decide +kernel) rfl
        · have r0 := Reads.dict (h := s.heap) (a := a) (o := o) (es := es) (n := ep) (kvs := []) (as := []) (bs := []) ho hex.1 hda (by rw [hes]; exact .nil) (by rw [hes]; exact .nil)
          exact r0
        · rw [← List.mem_singleton.mp hm] at hsys
          exact absurd hsys (by simp)
def gStr : List PyData → Option (PyData × Bool)
  | [d] => if (strAt d || pairD d) = true then some (.str (strTx d), false) else none
  | _ => none
theorem gStr_ok {K : PySem.W.Frag} : CallD (rStrD K) gStr := by
  intro R H vs ds d fr Q e t hg k
  unfold gStr at hg
  split at hg
  · split at hg
    · rename_i hs
      cases hg
      obtain ⟨v, rfl, t1⟩ := tops1 t
      exact ⟨v, _, rfl, top_dp e t1, hs, k.now e (.str _)⟩
    · cases hg
  · cases hg
theorem g_str {d : PyData} (h : strAt d = true) : gStr [d] = some (.str (strTx d), false) := by
  show (if (strAt d || pairD d) = true then some (PyData.str (strTx d), false) else none) = _
  rw [if_pos (by rw [h]; rfl)]
theorem g_strP {d : PyData} (h : (strAt d || pairD d) = true) : gStr [d] = some (.str (strTx d), false) := by
  show (if (strAt d || pairD d) = true then some (PyData.str (strTx d), false) else none) = _
  rw [if_pos h]
end Fw
namespace Fw
open PySem PySem.Spec PyProof.Rows L2 Evl
/-! the law's def, entered from outside: nothing runs around it, so nothing is being shown there -/
section
variable {P : Program} {w : World} {K : PySem.W.Frag} {mg : Str → Option Value} {base : Heap}
def EnterOk (P : Program) (w : World) (K : PySem.W.Frag) (mg : Str → Option Value) (base : Heap) (f : Addr) (fd : FuncData) (ps : List Str) (sp : Sp) : Prop :=
  ∀ (t : Shared) (G : Hp) (ar : Args) (us : List Value) (vs : List V) (Q : VK) (E : XK), Env0 P w K mg base callerA [] t G → BindsTo t fd ar (ps.zip us) → Vals vs us → sp vs G Q E → codeAny (model P w) callerA (.call (.ref f) ar) (CR CX0 [] P w G t Q E) t
theorem enter_def {x qual : Str} {st : Stmt} {f : Addr} {fd : FuncData} {N ps : List Str} {k : Nat} {sp : Sp} (Fn : Fun K x qual st f fd) (Sc : FnScope N ps (defScope st)) (ln : ∀ vs G Q E, sp vs G Q E → vs.length = ps.length) (rm : Room (k + 1) callerA)
    (body : ∀ (cv : Value) (t : Shared) (G : Hp) (vs : List V) (Q : VK) (E : XK), Room k (callerA.deeper (envOfC qual (defScope st) t.heap.objs.size f cv)) → sp vs G Q E →
      ∃ r, PSs (cxOf CX0 P w K mg base N qual (defScope st) f cv callerA [] t G E).nox (defBody st) r ∧ r { nx := fun _ G' => Q .non G', rt := Q } (L2.start N vs) G) : EnterOk P w K mg base f fd ps sp := by
  obtain ⟨oc, od, kV, dc, pm, an, cv, ct, sl, rfl, look, code⟩ := Fn.ex
  intro t G ar us vs Q E en bi rv hs
  have lens := ln vs G Q E hs
  have kin : K.In t.heap := PySem.W.Frag.In.keeps en.mod.kin fun b o q => (en.bs b o q).1
  have nolim : t.heap.NoLimit := Heap.NoLimit.keeps en.mod.nolimit fun b o q => (en.bs b o q).1
  have kinds : ∀ y ∈ ps.zip us, (defScope st).names.lookup y.1 = some .local ∨ ((defScope st).names.lookup y.1 = some .cell ∧ ((cellsFrom (t.heap.objs.size + 1) (defScope st).names []).lookup y.1).isSome = true) := by
    rintro ⟨y, v⟩ hy
    have hp := Sc.par y (List.of_mem_zip hy).1
    exact hp.elim .inl fun z => .inr ⟨z, PySem.W.cellsFrom_some _ _ _ (.inl z)⟩
  refine codeAny_call_function rm.depth (kin _ _ look) rfl Sc.co Sc.gen rfl (PySem.W.codeRec_of kin code) (bi _ _ _ _ ?_)
  refine wpAny_newFunctionEnv_cells Sc.kind kinds fun env he t1 y => ?_
  cases he
  refine ⟨Heap.NoLimit.keeps nolim y.toInCall.keep, codeAny_func ?_⟩
  obtain ⟨r, hr, hq⟩ := body cv t G vs Q E (rm.deeper _) hs
  have J : Inv (cxOf CX0 P w K mg base N qual (defScope st) f cv callerA [] t G E) [] (L2.start N vs) G t1 := inv_start Sc rm.hd en lens rv y
  refine wpAny_mono (hr.nox.run [] t1 _ G _ J hq) (fun fl t2 z => ?_) fun e t2 z => z
  cases fl with
  | brk => exact z.choose_spec.choose_spec.2.elim
  | cont => exact z.choose_spec.choose_spec.2.elim
  | next =>
    obtain ⟨σ, G', J2, z⟩ := z
    exact ⟨.non, G', J2.os, J2.bare, J2.base, J2.hok, rfl, z⟩
  | ret u =>
    obtain ⟨v, σ, G', J2, r2, z⟩ := z
    exact ⟨v, G', J2.os, J2.bare, J2.base, J2.hok, r2, z⟩
/-- the script as a heap of its own, or none where it is an object of the module -/
theorem enter_law {mb : Str → Option Value} {fa a : Addr} {fd : FuncData} {x : Str} {sp : Sp} {t : Shared} {vs : List Value} {ns : List Int} (kin : K.In t.heap) (top : t.heap.Ns mainGlobals mg) (blt : t.heap.Ns builtinsNs mb) (bb : ∀ y : Str, y ≠ "__name__" → mb y = bootBuiltins y)
    (lim : t.heap.NoLimit) (gens : t.gens = #[]) (ha : t.heap.get? a = some { cls := .type "list", data := .seq vs.toArray }) (hi : IntsAre vs ns) (few : ns.length ≤ sizeLine) (Fn : ∀ bs : Heap, K.In bs → bs.Ns mainGlobals mg → EnterOk P w K mg bs fa fd [x] sp)
    (bi : ∀ (t : Shared) (u : Value), BindsTo t fd ⟨[u], []⟩ [(x, u)]) (hsp : ∀ G : Hp, Only G → SqL K G a (ns.map V.int) → sp [.ref a] G (fun v _ => v = .bl true) fun _ _ _ => False) :
    codeAny (model P w) callerA (.call (.ref fa) ⟨[.ref a], []⟩) (fun r t2 => r = .ok (.ret (.bool true)) ∧ OldK t.heap t2.heap ∧ t2.os = t.os ∧ AllBare t2.gens) t := by
  have rvs := vals_ints hi
  have main : ∀ G : Hp, Only G → SqL K G a (ns.map V.int) → HOk P w G t.heap → (∀ b u, G b = some u → b = a ∧ K.lookup a = none) → codeAny (model P w) callerA (.call (.ref fa) ⟨[.ref a], []⟩) (fun r t2 => r = .ok (.ret (.bool true)) ∧ OldK t.heap t2.heap ∧ t2.os = t.os ∧ AllBare t2.gens) t := by
    intro G only sq ok own
    -- what is no list stays in the base
    have free : ∀ {b : Addr} {o : Obj}, t.heap.get? b = some o → (∀ items n, o.data ≠ .seq items n) → (hidT t.heap G).get? b = some o := fun {b o} e nd => hidT_get e (by
      cases hq : G b with
      | none => rfl
      | some u =>
        obtain ⟨rfl, _⟩ := own b u hq
        rw [ha] at e
        cases e
        exact absurd rfl (nd _ _))
    have nsOf : ∀ {b : Addr} {m : Str → Option Value}, t.heap.Ns b m → (hidT t.heap G).Ns b m := fun {b m} h => by
      obtain ⟨o, es, ep, e, d, rest⟩ := h
      exact ⟨o, es, ep, free e (fun items n z => by rw [d] at z; cases z), d, rest⟩
    have kinB : K.In (hidT t.heap G) := fun b o e => hidT_get (kin b o e) (by
      cases hq : G b with
      | none => rfl
      | some u =>
        obtain ⟨rfl, hk⟩ := own b u hq
        rw [hk] at e
        cases e)
    obtain ⟨mc, lim1, lim2⟩ := lim
    have en : Env0 P w K mg (hidT t.heap G) callerA [] t G :=
      { frames := rfl, mod := ⟨kinB, nsOf top, ⟨mb, nsOf blt, bb⟩, ⟨mc, nsOf lim1, lim2⟩⟩, bs := fun b o e => of_hidT e, bsz := Nat.le_of_eq (hidT_size _ _), funs := trivial, frf := fun b hb => absurd hb List.not_mem_nil, hok := ok, bare := .of_eq gens }
    refine codeAny_mono (Fn _ kinB (nsOf top) t G _ [.ref a] [.ref a] _ _ en (bi t (.ref a)) (.cons rfl .nil) (hsp G only sq)) fun r t2 h => ?_
    match r, h with
    | .ok (.ret u), ⟨v, G', o1, o2, un, ok', rv, q⟩ =>
      cases (show v = .bl true from q)
      cases (show u = Value.bool true from rv)
      refine ⟨rfl, OldK.of_keep fun b o e => ?_, o1, o2⟩
      rcases only b with z | ⟨ob, xs, z⟩
      · exact un.keep b o e z (fun h => absurd h List.not_mem_nil) (fun h => absurd h List.not_mem_nil)
      · have z1 := (ok b _ z).1
        have z2 := (ok' b _ (un.frzs b ob _ z)).1
        rw [e] at z1
        cases z1
        exact z2
  by_cases hk : K.lookup a = none
  · have e1 : upd (fun _ => none) a (.frz { cls := .type "list", data := .seq vs.toArray } (.lst (ns.map V.int))) a = some (.frz { cls := .type "list", data := .seq vs.toArray } (.lst (ns.map V.int))) := upd_same
    refine main (upd (fun _ => none) a (.frz { cls := .type "list", data := .seq vs.toArray } (.lst (ns.map V.int)))) (fun b => ?_) (.inl (.inr ⟨_, e1⟩)) (fun b u z => ?_) (fun b u z => ?_)
    · by_cases hb : b = a
      · exact .inr ⟨_, _, by rw [hb]; exact e1⟩
      · exact .inl (upd_ne hb)
    · by_cases hb : b = a
      · subst hb
        rw [e1] at z
        cases z
        exact ⟨ha, by rw [List.length_map]; exact few, vs, _, rvs, ha⟩
      · rw [upd_ne hb] at z
        cases z
    · by_cases hb : b = a
      · exact ⟨hb, hk⟩
      · rw [upd_ne hb] at z
        cases z
  · obtain ⟨o, ho⟩ := Option.ne_none_iff_exists'.mp hk
    have e := kin a o ho
    rw [ha] at e
    cases e
    refine main (fun _ => none) (fun _ => .inl rfl) (.inr ⟨_, vs.toArray, _, ho, rfl, rfl, rfl, ?_, by simpa using rvs⟩) (fun b u z => nomatch (show none = some u from z)) (fun b u z => nomatch (show none = some u from z))
    rw [List.size_toArray, hi.length]
    exact few
end
theorem walk_in {l : PySem.W.OpenLaw} {n : Nat} {q : Program} {loose : List Str} {XP : (Str → Option Value) → Heap → Prop} {YP : World → Heap → Prop} {d : DefRec} {K : Params → PySem.W.Frag} {sp : World → Sp} {x : Str} (hn : l.most = some n) (hn2 : n ≤ sizeLine) (hd : d.params.defaults = [])
    (hY : ∀ (w : World) (h : Heap), YP w h → (K w.params).In h)
    (Fn : ∀ (w : World) (mg : Str → Option Value) (fa : Addr) (h : Heap), (K w.params).In h → h.Ns mainGlobals mg → mg d.name = some (.ref fa) → ∃ fd : FuncData, (∀ (t : Shared) (u : Value), BindsTo t fd ⟨[u], []⟩ [(x, u)]) ∧ ∀ bs : Heap, (K w.params).In bs → bs.Ns mainGlobals mg → EnterOk l.prog w (K w.params) mg bs fa fd [x] (sp w))
    (hsp : ∀ (w : World) (G : Hp) (a : Addr) (ns : List Int), ns.length ≤ n → Only G → SqL (K w.params) G a (ns.map V.int) → sp w [.ref a] G (fun v _ => v = .bl true) fun _ _ _ => False) : PySem.W.WalkO q loose XP YP l.row.toRowW d [] (fun f vs => PySem.call f vs) :=
  Att.attach_call hn hd fun w s₀ t mg mb fa o pm cd dc a vs ns G Y _ _ _ hm hobj hints hlen hg => by
    have kin := hY w _ Y
    obtain ⟨fd, bi, hF⟩ := Fn w mg fa _ kin G.T.g hm
    exact enter_law kin G.T.g G.T.b G.T.builtins G.T.nolimit hg hobj hints (Nat.le_trans hlen hn2) hF bi fun H hO hS => hsp w H a ns hlen hO hS
end Fw
namespace Fw
open PySem PySem.Spec PyProof.Rows L2 Evl
theorem units80 {k : Nat} {A : Around} (r : Room k A) : A.units + 80 < cLine := by have := r.un; omega
section
variable {P : Program} {w : World} {K : PySem.W.Frag} {mg : Str → Option Value} {base : Heap}
theorem enter_pure {x qual : Str} {st : Stmt} {f : Addr} {fd : FuncData} {N ps : List Str} {k : Nat} {ms : List Bool} {g : List PyData → Option (PyData × Bool)} (F : Fun K x qual st f fd) (S : FnScope N ps (defScope st)) (hn : ps.length = ms.length) (rm : Room (k + 1) callerA)
    (hbody : ∀ (cdv : Value) (s : Shared) (H : Hp) (E : XK), Room k (callerA.deeper (envOfC qual (defScope st) s.heap.objs.size f cdv)) →
      ∃ fs : SF, PSs (cxOf CX0 P w K mg base N qual (defScope st) f cdv callerA [] s H E).nox (defBody st) (tS fs) ∧ ∀ ds d fr, ds.length = ms.length → g ds = some (d, fr) → outR (fs (envOf N.length ms ds)) = some (d, fr)) :
    EnterOk P w K mg base f fd ps (spD g ms) := by
  refine enter_def F S (fun vs H Q E h => ?_) rm (fun cdv s H vs Q E hr h => ?_)
  · obtain ⟨R, ds, d, fr, _, ha, _⟩ := h
    obtain ⟨h1, h2⟩ := ha.len
    omega
  · obtain ⟨R, ds, d, fr, e, hd, hg, kq⟩ := h
    obtain ⟨fs, hp, hq⟩ := hbody cdv s H E hr
    refine ⟨tS fs, hp, H, H, R, R, envOf N.length ms ds, srel_start e hd, ?_⟩
    have := hq ds d fr hd.len.2.symm hg
    cases ho : fs (envOf N.length ms ds) with
    | rt d' fr' =>
      rw [ho] at this
      cases this
      exact kq
    | nx e' =>
      rw [ho] at this
      cases this
      intro σ' R' H' S' _
      exact kq .non R' H' S'.r0 S'.h0 S'.rh S'.new .non
    | bk _ => rw [ho] at this; cases this
    | ct _ => rw [ho] at this; cases this
    | bad => rw [ho] at this; cases this
theorem enter_scr {f : Addr} {fd : FuncData} {x : Str} {a0 : Addr} {sd : PyData} {g : GFn} {fr : Bool} (F : EnterOk P w K mg base f fd [x] (spD g [false])) (hg : g [sd] = some (.bool true, fr)) : EnterOk P w K mg base f fd [x] (spScr a0 sd) := by
  intro t G ar us vs Q E en bi rv hs
  obtain ⟨rfl, hd, q⟩ := hs
  refine F t G ar us _ Q E en bi rv ⟨G, [sd], .bool true, fr, Ex.refl G, .sh hd .nil, hg, fun v R' H' _ _ _ _ r => ?_⟩
  cases fr with
  | false =>
    cases r
    exact q H'
  | true =>
    obtain ⟨_, _, _, _, h, _⟩ := r
    cases h
theorem enter_all {f : Addr} {fd : FuncData} {x : Str}
    (h : ∀ (a0 : Addr) (ns : List Int) (sd : PyData) (gc : GFn), CellOk ns sd gc → CellG K gc → ns.length ≤ 63 → EnterOk P w K mg base f fd [x] (spScr a0 sd)) : EnterOk P w K mg base f fd [x] (spLaw K) := by
  intro t G ar us vs Q E en bi rv hs
  obtain ⟨a, ns, rfl, hS, hl, q⟩ := hs
  rcases hS with ⟨o, hS⟩ | hS
  · exact h a ns _ _ (cell_L ns) cellG_L hl t G ar us [.ref a] Q E en bi rv ⟨rfl, .fz ns hS, q⟩
  · exact h a ns _ _ (cell_K a ns) (cellG_K hS) hl t G ar us [.ref a] Q E en bi rv ⟨rfl, .op a, q⟩
end
end Fw
namespace Fw
open PySem PySem.Spec PyProof.Rows L2 Evl
/-! small data: what str tells of it is short enough -/
structure Sm (w j : Nat) (d : PyData) : Prop where
  lay : d.canLay0 = true
  dep : d.depth ≤ j
  sho : d.showable = true
  sh : d.intsShort 100 = true
  wt : d.weight ≤ w
theorem Sm.le {w w' j j' : Nat} {d : PyData} (h : Sm w j d) (hw : w ≤ w') (hj : j ≤ j') : Sm w' j' d := ⟨h.lay, Nat.le_trans h.dep hj, h.sho, h.sh, Nat.le_trans h.wt hw⟩
theorem small_all {w j : Nat} : ∀ {ds : List PyData}, (∀ x ∈ ds, Sm w j x) → PyData.canLayAll0 ds = true ∧ PyData.depthAll ds ≤ j ∧ PyData.showableAll ds = true ∧ PyData.intsShortAll 100 ds = true ∧ PyData.weightAll ds ≤ ds.length * (w + 1)
  | [], _ => ⟨rfl, Nat.zero_le _, rfl, rfl, Nat.zero_le _⟩
  | x :: r, h => by
    obtain ⟨h1, h2, h3, h4, h5⟩ := small_all fun y hy => h y (List.mem_cons_of_mem _ hy)
    have hx := h x List.mem_cons_self
    refine ⟨?_, ?_, ?_, ?_, ?_⟩
    · simp [PyData.canLayAll0, hx.lay, h1]
    · simp only [PyData.depthAll]
      exact Nat.max_le.mpr ⟨hx.dep, h2⟩
    · simp [PyData.showableAll, hx.sho, h3]
    · simp [PyData.intsShortAll, hx.sh, h4]
    · simp only [PyData.weightAll, List.length_cons, Nat.add_mul, Nat.one_mul]
      have := hx.wt
      omega
theorem small_list {w j : Nat} {ds : List PyData} (h : ∀ x ∈ ds, Sm w j x) : Sm (ds.length * (w + 1)) (j + 1) (.list ds) := by
  obtain ⟨h1, h2, h3, h4, h5⟩ := small_all h
  exact ⟨by simpa [PyData.canLay0] using h1, by simp only [PyData.depth]; omega, by simpa [PyData.showable] using h3, by simpa [PyData.intsShort] using h4, by simpa [PyData.weight] using h5⟩
theorem small_tup {w j : Nat} {ds : List PyData} (h : ∀ x ∈ ds, Sm w j x) : Sm (ds.length * (w + 1)) (j + 1) (.tuple ds) := by
  obtain ⟨h1, h2, h3, h4, h5⟩ := small_all h
  exact ⟨by simpa [PyData.canLay0] using h1, by simp only [PyData.depth]; omega, by simpa [PyData.showable] using h3, by simpa [PyData.intsShort] using h4, by simpa [PyData.weight] using h5⟩
theorem sm_int {v : Int} (h : v.natAbs < 10 ^ 30) : Sm 101 0 (.int v) := by
  have hl : v.natAbs.log2 < 100 := by
    by_cases z : v.natAbs = 0
    · rw [z]
      decide
    · exact (Nat.log2_lt z).mpr (Nat.lt_trans h (by decide))
  refine ⟨rfl, Nat.le_refl 0, ?_, ?_, ?_⟩
  · simp only [PyData.showable, decide_eq_true_eq]
    omega
  · simp only [PyData.intsShort, decide_eq_true_eq]
    have e := int_text_length_le10 (k := 30) (by decide) h
    show (Str.ofString (toString v)).length ≤ 100
    rw [PySem.ofString_length]
    omega
  · simp only [PyData.weight]
    split <;> omega
theorem sm_none : Sm 0 0 .none := ⟨rfl, Nat.le_refl 0, rfl, rfl, Nat.le_refl 0⟩
theorem sm_bool (b : Bool) : Sm 0 0 (.bool b) := ⟨rfl, Nat.le_refl 0, rfl, rfl, Nat.le_refl 0⟩
theorem sm_ints {ns : List Int} (h : ∀ v ∈ ns, v.natAbs < 10 ^ 30) : ∀ x ∈ ns.map PyData.int, Sm 101 0 x := fun x hx => by
  obtain ⟨v, hv, rfl⟩ := List.mem_map.mp hx
  exact sm_int (h v hv)
theorem Sm.at {w j : Nat} {d : PyData} (h : Sm w j d) (hw : w ≤ 100000) (hj : j ≤ 60) : strAt d = true := by
  have hs : d.shown.length ≤ sizeLine := by
    have := PyData.shown_le 100 (by decide) d (PyData.leavesShort_of_canLay0 100 d h.lay h.sh)
    have hw' := h.wt
    rw [sizeLine_eq]
    have h2 : (100 + 2) * d.weight ≤ 102 * 100000 := Nat.mul_le_mul (Nat.le_refl _) (Nat.le_trans hw' hw)
    omega
  have hd := Nat.le_trans h.dep hj
  have key : (d.canLay0 && decide (d.depth ≤ 60) && d.showable && decide (d.shown.length ≤ sizeLine)) = true := by
    rw [h.lay, decide_eq_true hd, h.sho, decide_eq_true hs]
    rfl
  cases d with
  | str x => rfl
  | dict kvs => have := h.lay; simp [PyData.canLay0] at this
  | none => exact key
  | bool b => exact key
  | int i => exact key
  | list ds => exact key
  | tuple ds => exact key
theorem strAt_d0 : strAt (.dict []) = true := rfl
theorem strAt_str (x : Str) : strAt (.str x) = true := rfl
theorem cutA_map {α β : Type} (f : α → β) (l : List α) (lo hi : Option Int) : cutA (l.map f) lo hi = (cutA l lo hi).map f := by
  unfold cutA
  rw [List.length_map, List.map_take, List.map_drop]
theorem cutA_sub {α : Type} {xs : List α} {lo hi : Option Int} {x : α} (h : x ∈ cutA xs lo hi) : x ∈ xs := by
  unfold cutA at h
  exact List.mem_of_mem_drop (List.mem_of_mem_take h)
theorem cutA_short {α : Type} (xs : List α) (lo hi : Option Int) : (cutA xs lo hi).length ≤ xs.length := by
  unfold cutA
  rw [List.length_take, List.length_drop]
  omega
/-! two texts -/
def gEqS : PyData → PyData → Option (PyData × Bool)
  | .str x, .str y => some (.bool (decide (V.str x = V.str y)), false)
  | _, _ => none
theorem gEqS_ok : OpD rEq gEqS := by
  intro R H x y dx dy d fr Q e tx ty hg k
  unfold gEqS at hg
  split at hg
  · cases hg
    have e1 := top_str tx
    have e2 := top_str ty
    subst e1 e2
    exact ⟨rfl, k.now e (.bl _)⟩
  · cases hg
theorem g_eqS (x : Str) : gEqS (.str x) (.str x) = some (.bool true, false) := by
  show some (PyData.bool (decide (V.str x = V.str x)), false) = _
  rw [decide_eq_true rfl]
end Fw
namespace Fw
open PySem PySem.Spec PyProof.Rows L2 Evl
/-! for, with a suite that may raise -/
def loopX (g : GF) (fb : SX) : List PyData → En → OutX
  | [], env => .ok (.nx env)
  | x :: xs, env => match g x env with
    | none => .ok .bad
    | some e1 => match fb e1 with
      | .ok (.nx e2) => loopX g fb xs e2
      | .ok (.ct e2) => loopX g fb xs e2
      | .ok (.bk e2) => .ok (.nx e2)
      | o => o
def xFor (fi : AF) (g : GF) (fb : SX) : SX := fun env => match fi env with
  | none => .ok .bad
  | some (xs, e1) => loopX g fb xs e1
def GoodX (mg : Str → Option Value) (E : XK) (B H0 R0 R : Hp) (D : Ends) : OutX → Prop
  | .ok o => Good B H0 R0 R D o
  | .ex c => ∀ H' v, Ex H0 H' → mg c = some v → E v none H'
theorem GoodX.mono {mg : Str → Option Value} {E : XK} {B H0 R0 R R' : Hp} {D : Ends} {o : OutX} (e : Ex R R') (h : GoodX mg E B H0 R0 R D o) : GoodX mg E B H0 R0 R' D o := by
  cases o with
  | ok o => exact Good.mono e h
  | ex c => exact h
theorem tX_good {mg : Str → Option Value} {E : XK} {f : SX} {D : Ends} {σ : L2.St} {H : Hp} (h : ∃ B H0 R0 R env, SRel B H0 R0 R H σ env ∧ GoodX mg E B H0 R0 R D (f env)) : tX mg E f D σ H := by
  obtain ⟨B, H0, R0, R, env, S, q⟩ := h
  refine ⟨B, H0, R0, R, env, S, ?_⟩
  cases hq : f env with
  | ok o => rw [hq] at q; exact q
  | ex c => rw [hq] at q; exact q
theorem tX_good' {mg : Str → Option Value} {E : XK} {f : SX} {D : Ends} {σ : L2.St} {H : Hp} (h : tX mg E f D σ H) : ∃ B H0 R0 R env, SRel B H0 R0 R H σ env ∧ GoodX mg E B H0 R0 R D (f env) := by
  obtain ⟨B, H0, R0, R, env, S, q⟩ := h
  refine ⟨B, H0, R0, R, env, S, ?_⟩
  cases hq : f env with
  | ok o => rw [hq] at q; exact q
  | ex c => rw [hq] at q; exact q
theorem forX_ok {mg : Str → Option Value} {E : XK} {fi : AF} {js : List Nat} {g : GF} {fb : SX} {D : Ends} {σ : L2.St} {H : Hp} (q : tX mg E (xFor fi g fb) D σ H) : tFor (tI fi) (tG js g) (tX mg E fb) D σ H := by
  obtain ⟨B, H0, R0, R, env, S, q⟩ := tX_good' q
  unfold xFor at q
  cases hq : fi env with
  | none => rw [hq] at q; exact q.elim
  | some r =>
    obtain ⟨xs, e1⟩ := r
    rw [hq] at q
    simp only at q
    refine ⟨B, H0, R0, R, env, xs, e1, S, hq, fun J R1 H1 S1 i1 j1 w => ?_⟩
    refine ⟨fun i m σ' H' => m = xs.length - i ∧ i ≤ xs.length ∧ ∃ R' e', SRel B H0 R0 R' H' σ' e' ∧ Ex R1 R' ∧ GoodX mg E B H0 R0 R' D (loopX g fb (xs.drop i) e'), ⟨xs.length, by simp, Nat.zero_le _, R1, e1, S1, Ex.refl R1, GoodX.mono i1 q⟩, ?_⟩
    rintro i m σ' H' ⟨rfl, hi, R', e', S', i2, hg⟩
    by_cases hlt : i < xs.length
    · refine .inr ⟨w.go i R' H' (S'.bb.trans S'.h0) i2 S'.rh hlt, fun σ2 H2 => ∃ R2 e2, SRel B H0 R0 R2 H2 σ2 e2 ∧ Ex R1 R2 ∧ GoodX mg E B H0 R0 R2 D (loopX g fb (xs.drop (i + 1)) e2), fun σ2 H2 ⟨R2, e2, h2⟩ => ⟨xs.length - (i + 1), by omega, rfl, hlt, R2, e2, h2⟩, fun x H'' hy => ?_⟩
      obtain ⟨R'', a1, a2, a3, a4, a5⟩ := w.yld i R' H' x H'' xs[i] (S'.bb.trans S'.h0) i2 S'.rh (List.getElem?_eq_getElem hlt) hy
      have S'' := S'.growR a2 a1 a3 a4
      rw [List.drop_eq_getElem_cons hlt] at hg
      unfold loopX at hg
      split at hg
      · exact hg.elim
      · rename_i e3 h3
        refine ⟨B, H0, R0, R'', e', xs[i], e3, S'', a5, h3, fun σ3 S3 _ _ => tX_good ⟨B, H0, R0, R'', e3, S3, ?_⟩⟩
        have hg' := GoodX.mono a1 hg
        cases hb : fb e3 with
        | ex c => rw [hb] at hg'; exact hg'
        | ok o =>
          rw [hb] at hg'
          cases o with
          | nx e4 => exact fun σ4 R4 H4 S4 i4 => ⟨R4, e4, S4, (i2.trans a1).trans i4, GoodX.mono i4 hg'⟩
          | ct e4 => exact fun σ4 R4 H4 S4 i4 => ⟨R4, e4, S4, (i2.trans a1).trans i4, GoodX.mono i4 hg'⟩
          | bk e4 => exact hg'
          | rt d fr => exact hg'
          | bad => exact hg'
    · refine .inl ⟨w.stop i R' H' (S'.bb.trans S'.h0) i2 S'.rh (by omega), ?_⟩
      rw [List.drop_eq_nil_of_le (by omega)] at hg
      exact hg σ' R' H' S' (Ex.refl R')
section
variable {X : Cx} {mg : Str → Option Value} {E : XK} {st : Stmt} {rest body a b : List Stmt} {pos : Pos} {e : Expr} {fx : EFX}
theorem xs_for {tg iter : Expr} {fi : AF} {js : List Nat} {g : GF} {fb : SX} (hp : PassesOwn (model X.prog X.w) X.A X.env X.xe) (hc : X.calm = true) (hi : PI X tg iter (tI fi)) (hg : PG X tg (tG js g)) (hb : PSs X body (tX mg E fb)) (hs : ∀ x, foldedSetIterable iter X.env x = pure x := by intro _; rfl) :
    PS X (.For tg iter body [] pos) (tX mg E (xFor fi g fb)) := PS.imp (ps_for hp hc hi hg hb hs) fun D σ H q => forX_ok q
/-- what is not reached -/
theorem pss_bad : PSs X rest (tS fun _ => .bad) := ⟨fun _ _ _ _ _ _ ⟨_, _, _, _, _, _, h⟩ => h.elim⟩
theorem pss_false : PSs X rest (fun _ _ _ => False) := ⟨fun _ _ _ _ _ _ h => h.elim⟩
/-! an expression that raises, come what may -/
def tR (mg : Str → Option Value) (E : L2.St → XK) (fx : EFX) : L2.St → Hp → Prop := fun σ H => ∃ B H0 R0 R env, SRel B H0 R0 R H σ env ∧ match fx env with
  | some (.exc c, _) => ∀ H' v, Ex H H' → mg c = some v → E σ v none H'
  | _ => False
theorem xr_call {E : L2.St → XK} (h : PE X e (tEX mg E fx)) : PE X e (fun σ H _ => tR mg E fx σ H) := PE.imp h fun σ H Q ⟨B, H0, R0, R, env, S, q⟩ => by
  refine ⟨B, H0, R0, R, env, S, ?_⟩
  cases hq : fx env with
  | none => rw [hq] at q; exact q.elim
  | some r =>
    obtain ⟨r, e1⟩ := r
    rw [hq] at q
    cases r with
    | val d fr => exact q.elim
    | exc c => exact q
def xR (fx : EFX) : SX := fun env => match fx env with
  | some (.exc c, _) => .ex c
  | _ => .ok .bad
theorem xR_ok {D : Ends} {σ : L2.St} {H : Hp} (h : tX mg E (xR fx) D σ H) : tR mg (fun _ => E) fx σ H := by
  obtain ⟨B, H0, R0, R, env, S, q⟩ := h
  refine ⟨B, H0, R0, R, env, S, ?_⟩
  unfold xR at q
  cases hq : fx env with
  | none => rw [hq] at q; exact q.elim
  | some r =>
    obtain ⟨r, e1⟩ := r
    rw [hq] at q
    cases r with
    | val d fr => exact q.elim
    | exc c => exact fun H' v i hm => q H' v (S.h0.trans i) hm
theorem xs_retR (h : PE X e (fun σ H _ => tR mg (fun _ => E) fx σ H)) : PS X (.Return (some e) pos) (tX mg E (xR fx)) := PS.imp (ps_ret h) fun D σ H q => xR_ok q
theorem xs_ifR (h : PT X e (fun σ H _ => tR mg (fun _ => E) fx σ H)) : PS X (.If e a b pos) (tX mg E (xR fx)) := PS.imp (ps_if h (pss_false (rest := a)) (pss_false (rest := b))) fun D σ H q => xR_ok q
/-- .. behind a name that is read ahead -/
def xRV (i : Nat) (fx : EFX) : SX := fun env => match env[i]? with
  | some (some (_, false)) => xR fx env
  | _ => .ok .bad
theorem xRV_ok {i : Nat} {D : Ends} {σ : L2.St} {H : Hp} (h : tX mg E (xRV i fx) D σ H) : ∃ v, σ[i]? = some (some v) ∧ tR mg (fun _ => E) fx σ H := by
  obtain ⟨B, H0, R0, R, env, S, q⟩ := h
  have bad : ∀ {P : Prop}, xRV i fx env = .ok .bad → P := fun {P} z => by rw [z] at q; exact q.elim
  cases hq : env[i]? with
  | none => exact bad (by unfold xRV; rw [hq])
  | some o =>
    cases o with
    | none => exact bad (by unfold xRV; rw [hq])
    | some r =>
      obtain ⟨d, b⟩ := r
      cases b with
      | true => exact bad (by unfold xRV; rw [hq])
      | false =>
        obtain ⟨v, hv, _⟩ := S.slot i d hq
        have e : xRV i fx env = xR fx env := by unfold xRV; rw [hq]
        rw [e] at q
        exact ⟨v, hv, xR_ok (D := D) ⟨B, H0, R0, R, env, S, q⟩⟩
theorem xs_ifRV {i : Nat} (h : PT X e (fun σ H _ => ∃ v, σ[i]? = some (some v) ∧ tR mg (fun _ => E) fx σ H)) : PS X (.If e a b pos) (tX mg E (xRV i fx)) := PS.imp (ps_if h (pss_false (rest := a)) (pss_false (rest := b))) fun D σ H q => xRV_ok q
end
/-! try: e, its value dropped; except NetError as n: a suite that tells a datum -/
def sTryN (i L : Nat) (cod : Str → Option Int) (dd : Str → PyData) (fx : EFX) : SF := fun env => match fx env with
  | some (.val _ _, e1) => .nx e1
  | some (.exc c, _) => (match cod c with
    | some _ => if i < env.length ∧ env.length = L then .rt (dd c) false else .bad
    | none => .bad)
  | none => .bad
section
variable {X : Cx}
theorem qs_tryN {e : Expr} {fx : EFX} {nms : List Str} {cod : Str → Option Int} {dd : Str → PyData} {fh : Addr → Str → SF} {i L : Nat} {n : Str} {NA : Addr} {b₀ : Stmt} {suite : List Stmt} {p1 np pos pos' : Pos}
    (hC : AllC X.K X.mg nms cod) (hs : X.stack = X.env :: X.outer) (hf : X.env.frame = some X.env.locals) (hN : X.N.Nodup) (hi : X.N[i]? = some n) (hln : X.env.kindOf n = some .local) (gN : Gl X "NetError") (mN : X.mg "NetError" = some (.ref NA))
    (hb : ∀ (W : WX) (pn : List (Addr × Obj)) (xe : Value → Shared → Prop), L2N.Takes (X.tr pn xe) W → PE (X.tr pn xe) e (tEX X.mg (WE W) fx))
    (hsu : ∀ (a : Addr) (oe : Obj) (c : Str) (C : Addr) (z : Int) (pn : List (Addr × Obj)), ClsF X.K X.mg nms c C → cod c = some z → Zc (.ref C) none oe → (∃ vs, oe.data = .fields vs) → PSs (X.suite a ((a, oe) :: pn)) (b₀ :: suite) (tS (fh a c)))
    (hfh : ∀ (a : Addr) (c : Str) (z : Int) (env : En), cod c = some z → i < env.length → env.length = L → fh a c (env.set i (some (opD a, false))) = .rt (dd c) false)
    (hsw : ∀ (pn : List (Addr × Obj)) (xe : Value → Shared → Prop), swapsWith e none p1.line (X.tr pn xe).env = pure false := by intro _ _; rfl) :
    PS X (.Try [.Expr e p1] [.ExceptHandler (some (.Name "NetError" np)) (some n) (b₀ :: suite) pos'] [] [] pos) (tS (sTryN i L cod dd fx)) := by
  have hcl : ∀ c z, cod c = some z → ∃ C, ClsF X.K X.mg nms c C ∧ X.mg c = some (.ref C) := fun c z hc => by
    obtain ⟨C, h⟩ := hC c z hc
    exact ⟨C, h, h.r.gP⟩
  refine PS.imp (L2N.ps_try_as (c := .ref NA) (i := i) (tb := fun W => tDrop (tEX X.mg (WE W) fx)) (ts := fun a cls d D σ H => ∃ c C z, ClsF X.K X.mg nms c C ∧ cls = .ref C ∧ d = none ∧ cod c = some z ∧ tS (fh a c) D σ H) (Wout := fun _ _ _ _ => False) hs hf hN hi hln ⟨gN, by decide, .inl mN⟩ takesN
    (fun W pn xe tk _ => pss_one (ps_expr (hb W pn xe tk) (hsw pn xe))) fun a oe cls d pn hz hd => ⟨fun pins s σ H D I h => ?_⟩) fun D σ H ⟨B, H0, R0, R, env, S, q⟩ => ?_
  · obtain ⟨c, C, z, hm, rfl, rfl, hc, t⟩ := h
    exact (hsu a oe c C z pn hm hc hz.zc hd).run pins s σ H D I t
  · unfold sTryN at q
    refine ⟨B, H0, R0, R, env, S, ?_⟩
    cases hq : fx env with
    | none => rw [hq] at q; exact q.elim
    | some r =>
      obtain ⟨r, e1⟩ := r
      rw [hq] at q
      cases r with
      | val d fr => exact fun v R' H' S' i j r => q σ R' H' S' i
      | exc c =>
        simp only at q ⊢
        cases hc : cod c with
        | none => rw [hc] at q; exact q.elim
        | some z =>
          rw [hc] at q
          simp only at q
          by_cases hl : i < env.length ∧ env.length = L
          · rw [if_pos hl] at q
            intro H' v ej hm
            obtain ⟨C, hF, hC⟩ := hcl c z hc
            rw [hC] at hm
            cases hm
            refine ⟨true, hF.ex NA mN, fun _ a ha => ⟨c, C, z, hF, rfl, rfl, hc, B, H0, R0, R, env.set i (some (opD a, false)), (S.grow ej).setS (.op a), ?_⟩, fun z => nomatch z⟩
            rw [hfh a c z env hc hl.1 hl.2]
            exact q
          · rw [if_neg hl] at q
            exact q.elim
end
theorem v_tryNx {i L : Nat} {cod : Str → Option Int} {dd : Str → PyData} {fx : EFX} {env e1 : En} {c : Str} {z : Int} (h : fx env = some (.exc c, e1)) (hc : cod c = some z) (hi : i < env.length) (hl : env.length = L) : sTryN i L cod dd fx env = .rt (dd c) false := by
  unfold sTryN
  rw [h]
  simp only [hc]
  rw [if_pos ⟨hi, hl⟩]
theorem y_forx {fi : AF} {g : GF} {fb : SX} {env e1 : En} {ds : List PyData} {o : OutX} (h : fi env = some (ds, e1)) (h2 : loopX g fb ds e1 = o) : xFor fi g fb env = o := by
  unfold xFor
  rw [h]
  exact h2
theorem y_R {fx : EFX} {env e1 : En} {c : Str} (h : fx env = some (.exc c, e1)) : xR fx env = .ex c := by
  unfold xR
  rw [h]
theorem y_RV {i : Nat} {fx : EFX} {env e1 : En} {c : Str} {d : PyData} (hi : env[i]? = some (some (d, false))) (h : fx env = some (.exc c, e1)) : xRV i fx env = .ex c := by
  unfold xRV
  rw [hi]
  exact y_R h
/-- isinstance(e, C) in the suite that holds e -/
theorem qe_isS {X : Cx} {K' : PySem.W.Frag} {mg' : Str → Option Value} {D a : Addr} {oe : Obj} {pn : List (Addr × Obj)} {x : Str} {nms : List Str} {c : Str} {i : Nat} {e : Expr} {q q2 pos : Pos} (C : ClsF K' mg' nms c D) (hz : Zc (.ref D) none oe) (hf : ∃ vs, oe.data = .fields vs) (hx : x ∈ nms) (hm : mg' "isinstance" = none) (he : PE (X.suite a ((a, oe) :: pn)) e (tVar i))
    (hg : Gl (X.suite a ((a, oe) :: pn)) "isinstance" := by rfl) (gx : Gl (X.suite a ((a, oe) :: pn)) x := by rfl) (hK : X.K = K' := by rfl) (hmg : X.mg = mg' := by rfl) (hd : (x == ("__debug__" : Str)) = false := by decide)
    (h1 : starEach [e, .Name x q2] (X.suite a ((a, oe) :: pn)).env = (false, eval e (X.suite a ((a, oe) :: pn)).env) :: starEach [.Name x q2] (X.suite a ((a, oe) :: pn)).env := by rfl) (h2 : (backTo pos (starEach [.Name x q2] (X.suite a ((a, oe) :: pn)).env)).any (·.1) = false := by rfl) (h3 : starEach [.Name x q2] (X.suite a ((a, oe) :: pn)).env = (false, eval (.Name x q2) (X.suite a ((a, oe) :: pn)).env) :: starEach [] (X.suite a ((a, oe) :: pn)).env := by rfl) :
    PE (X.suite a ((a, oe) :: pn)) (.Call (.Name "isinstance" q) [e, .Name x q2] [] pos) (tE (eIsE a i (isc c x))) := by
  subst hK hmg
  exact qe_isN (X := X.suite a ((a, oe) :: pn)) (p := (a, oe)) List.mem_cons_self C hz hf hx hg hm gx he hd h1 h2 h3
end Fw
namespace Fw
open PySem PySem.Spec PyProof.Rows L2 Evl

/-! the worth of a table by its rows from the first on, over the places that are left -/
def cellR (rows : List (List Int)) (i j : Nat) : Int := (rows.getD i []).getD j 0
/-- f 0 - f 1 + f 2 .. (n of them) -/
def wAcc (f : Nat → Int) : Nat → Int
  | 0 => 0
  | k + 1 => if k % 2 = 0 then wAcc f k + f k else wAcc f k - f k
def dropAt {α : Type} (ps : List α) (a : Nat) : List α := ps.take a ++ ps.drop (a + 1)
def worthN (rows : List (List Int)) : Nat → List Nat → Int
  | 0, _ => 1
  | m + 1, ps => wAcc (fun a => cellR rows (rows.length - (m + 1)) (ps.getD a 0) * worthN rows m (dropAt ps a)) (m + 1)
theorem dropAt_len {α : Type} {ps : List α} {a m : Nat} (h : ps.length = m + 1) (ha : a < m + 1) : (dropAt ps a).length = m := by
  unfold dropAt
  rw [List.length_append, List.length_take, List.length_drop]
  omega
theorem dropAt_mem {α : Type} {ps : List α} {a : Nat} {x : α} (h : x ∈ dropAt ps a) : x ∈ ps := by
  rcases List.mem_append.mp h with h | h
  · exact List.mem_of_mem_take h
  · exact List.mem_of_mem_drop h
theorem wAcc_congr {f g : Nat → Int} : ∀ {n : Nat}, (∀ a, a < n → f a = g a) → wAcc f n = wAcc g n
  | 0, _ => rfl
  | n + 1, h => by
    unfold wAcc
    rw [wAcc_congr fun a ha => h a (Nat.lt_succ_of_lt ha), h n (Nat.lt_succ_self n)]
/-- how many are noted at most -/
def wNew : Nat → Nat
  | 0 => 0
  | m + 1 => 1 + (m + 1) * wNew m
def vn (n : Nat) : V := .int (n : Int)
def kn (n : Nat) : Key := .inl (n : Int)
def keyOf (ps : List Nat) : List Key := ps.map kn
theorem keyOf_v (ps : List Nat) : (keyOf ps).map kV = ps.map vn := by
  unfold keyOf
  rw [List.map_map]
  rfl
theorem keyOf_inj {a b : List Nat} (h : keyOf a = keyOf b) : a = b := by
  unfold keyOf at h
  induction a generalizing b with
  | nil => cases b with
    | nil => rfl
    | cons _ _ => cases h
  | cons x r ih => cases b with
    | nil => cases h
    | cons y q =>
      rw [List.map_cons, List.map_cons] at h
      injection h with h1 h2
      injection h1 with h3
      rw [Int.ofNat.inj h3, ih h2]
structure RowsGood (rows : List (List Int)) : Prop where
  few : rows.length ≤ 8
  all : ∀ row ∈ rows, rows.length ≤ row.length ∧ ∀ e ∈ row, -(2 ^ 64) < e ∧ e < 2 ^ 64
def RowsAt (H : Hp) (r : Addr) (rows : List (List Int)) : Prop :=
  ∃ vs : List V, H r = some (.lst vs) ∧ vs.length = rows.length ∧ ∀ (i : Nat) (row : List Int), rows[i]? = some row → ∃ a, vs[i]? = some (.ref a) ∧ H a = some (.lst (row.map V.int))
def Noted (rows : List (List Int)) (kvs : List (List Key × V)) : Prop := ∀ k v, valV kvs k = some v → ∃ ps, k = keyOf ps ∧ v = .int (worthN rows ps.length ps)
/-- all but the record at d stays -/
def Keeps (d : Addr) (H H' : Hp) : Prop := ∀ b o, b ≠ d → H b = some o → H' b = some o
theorem Keeps.refl (d : Addr) (H : Hp) : Keeps d H H := fun _ _ _ h => h
theorem Keeps.trans {d : Addr} {H H' H2 : Hp} (a : Keeps d H H') (b : Keeps d H' H2) : Keeps d H H2 := fun x o n h => b x o n (a x o n h)
theorem Keeps.new {d p : Addr} {H : Hp} {o : HO} (h : H p = none) : Keeps d H (upd H p o) := fun b ob _ hb => by
  by_cases e : b = p
  · subst e
    rw [h] at hb
    cases hb
  · rw [upd_ne e]
    exact hb
theorem Keeps.put {d : Addr} {H : Hp} {o : HO} : Keeps d H (upd H d o) := fun b ob n hb => by
  rw [upd_ne n]
  exact hb
theorem Keeps.at {d b : Addr} {H H' : Hp} {o : HO} {kvs : List (List Key × V)} (k : Keeps d H H') (hd : H d = some (.dT kvs)) (hb : H b = some o) (n : ∀ m, o ≠ .dT m) : H' b = some o := by
  refine k b o (fun e => ?_) hb
  subst e
  rw [hd] at hb
  cases hb
  exact n _ rfl
theorem RowsAt.keep {d r : Addr} {H H' : Hp} {rows : List (List Int)} {kvs : List (List Key × V)} (k : Keeps d H H') (hd : H d = some (.dT kvs)) (h : RowsAt H r rows) : RowsAt H' r rows := by
  obtain ⟨vs, h1, h2, h3⟩ := h
  refine ⟨vs, k.at hd h1 (fun m e => nomatch e), h2, fun i row q => ?_⟩
  obtain ⟨a, q1, q2⟩ := h3 i row q
  exact ⟨a, q1, k.at hd q2 (fun m e => nomatch e)⟩
theorem Noted.put {rows : List (List Int)} {kvs : List (List Key × V)} (h : Noted rows kvs) (ps : List Nat) : Noted rows (putK kvs (keyOf ps) (.int (worthN rows ps.length ps))) := fun k v q => by
  rw [valV_put] at q
  split at q
  · rename_i e
    cases q
    exact ⟨ps, e, rfl⟩
  · exact h k v q
/-- what a rest of m rows answers -/
def spRest (rows : List (List Int)) (m : Nat) : Sp := fun vs H Q _ => ∃ (r p d : Addr) (ps : List Nat) (kvs : List (List Key × V)), vs = [.ref r, .ref p, .ref d] ∧ RowsGood rows ∧ RowsAt H r rows ∧ H p = some (.tup (ps.map vn)) ∧ ps.length = m ∧ m ≤ rows.length ∧
  (∀ x ∈ ps, x < rows.length) ∧ H d = some (.dT kvs) ∧ Noted rows kvs ∧ kvs.length + wNew m ≤ 1000000 ∧
  ∀ H' kvs', Keeps d H H' → H' d = some (.dT kvs') → Noted rows kvs' → kvs'.length ≤ kvs.length + wNew m → Q (.int (worthN rows m ps)) H'
/-- .. and by its first row, m + 1 of them -/
def spFirst (rows : List (List Int)) : Nat → Sp
  | 0 => fun _ _ _ _ => False
  | m + 1 => fun vs H Q _ => ∃ (r p d : Addr) (ps : List Nat) (kvs : List (List Key × V)), vs = [.ref r, .ref p, .ref d] ∧ RowsGood rows ∧ RowsAt H r rows ∧ H p = some (.tup (ps.map vn)) ∧ ps.length = m + 1 ∧ m + 1 ≤ rows.length ∧
    (∀ x ∈ ps, x < rows.length) ∧ H d = some (.dT kvs) ∧ Noted rows kvs ∧ kvs.length + (m + 1) * wNew m ≤ 1000000 ∧
    ∀ H' kvs', Keeps d H H' → H' d = some (.dT kvs') → Noted rows kvs' → kvs'.length ≤ kvs.length + (m + 1) * wNew m → Q (.int (worthN rows (m + 1) ps)) H'
theorem fn_never {P : Program} {w : World} {K : PySem.W.Frag} {mg : Str → Option Value} {base : Heap} {k : Nat} {f : Addr} {fd : FuncData} {ps : List Str} : FnOk P w K mg base CX0 k f fd ps (fun _ _ _ _ => False) := ⟨fun _ _ _ _ h => h.elim, fun _ _ _ _ _ _ _ _ _ _ _ _ _ h => h.elim⟩
/-! slices and sums of tuples, whether new or the same -/
theorem slA_any {K : PySem.W.Frag} {a : Addr} {xs : List V} {lo hi : Option Int} {H : Hp} {Q : VK} (h : H a = some (.tup xs)) (q : ∀ b H', Ex H H' → H' b = some (.tup (cutA xs lo hi)) → Q (.ref b) H') : rSlA K (.ref a) lo hi H Q := by
  refine ⟨a, xs, rfl, SqT.of h, fun e => q a H (Ex.refl H) ?_, fun _ p hp => q p _ (Ex.new hp) upd_same⟩
  have : cutA xs lo hi = xs := by
    unfold cutA
    rw [e.1, e.2, List.drop_zero, Nat.sub_zero, List.take_length]
  rw [this]
  exact h
theorem catA_any {K : PySem.W.Frag} {a b : Addr} {xs ys : List V} {H : Hp} {Q : VK} (h : H a = some (.tup xs)) (h2 : H b = some (.tup ys)) (hl : xs.length + ys.length ≤ 1000) (q : ∀ c H', Ex H H' → H' c = some (.tup (xs ++ ys)) → Q (.ref c) H') : rCatA K (.ref a) (.ref b) H Q := by
  refine ⟨a, b, xs, ys, rfl, rfl, SqT.of h, SqT.of h2, Nat.le_trans hl (by decide), fun e => q b H (Ex.refl H) ?_, fun _ e => q a H (Ex.refl H) ?_, fun _ _ p hp => q p _ (Ex.new hp) upd_same⟩
  · rw [e]
    exact h2
  · rw [e, List.append_nil]
    exact h
theorem Keeps.ex {d : Addr} {H H' : Hp} (e : Ex H H') : Keeps d H H' := fun b o _ h => e b o h
/-- a def that stands at a name of the module and keeps a promise -/
structure HasS (P : Program) (w : World) (K : PySem.W.Frag) (mg : Str → Option Value) (base : Heap) (k : Nat) (x : Str) (sp : Sp) : Prop where
  ex : ∃ (f : Addr) (fd : FuncData) (ps : List Str), mg x = some (.ref f) ∧ PySem.W.keepIn K (.ref f) = true ∧ Binds K fd ps [] ∧ FnOk P w K mg base CX0 k f fd ps sp
theorem pe_callS {X : Cx} {k : Nat} {sp : Sp} {x : Str} {p pos : Pos} {e : Expr} {es : List Expr} {t : TA} (h : HasS X.prog X.w X.K X.mg X.base k x sp) (hr : Room k X.A) (hg : Gl X x) (ha : PA X (e :: es) t)
    (hdb : (x == ("__debug__" : Str)) = false := by decide) (he : starEach (e :: es) X.env = (false, eval e X.env) :: starEach es X.env := by rfl) (hpl : (backTo pos (starEach es X.env)).any (·.1) = false := by rfl) :
    PE X (.Call (.Name x p) (e :: es) [] pos) (tCall sp [] E0 t) := by
  obtain ⟨f, fd, ps, hm, hk, hb, F⟩ := h
  exact pe_call F hr hg hm hk hb .nil pass0 ha hdb he hpl
/-! as data -/
def rowsOf : List PyData → Option (List (List Int))
  | [] => some []
  | .list l :: r => (intsOf l).bind fun ns => (rowsOf r).map (ns :: ·)
  | _ :: _ => none
def rowsD (rows : List (List Int)) : List PyData := rows.map fun r => .list (r.map .int)
theorem rowsOf_D (rows : List (List Int)) : rowsOf (rowsD rows) = some rows := by
  induction rows with
  | nil => rfl
  | cons x r ih =>
    show (intsOf (x.map .int)).bind (fun ns => (rowsOf (rowsD r)).map (ns :: ·)) = _
    rw [intsOf_map, ih]
    rfl
theorem rowsOf_eq : ∀ {ds : List PyData} {rows : List (List Int)}, rowsOf ds = some rows → ds = rowsD rows
  | [], _, h => by cases h; rfl
  | .list l :: r, rows, h => by
    unfold rowsOf at h
    cases h1 : intsOf l with
    | none => rw [h1] at h; cases h
    | some ns =>
      cases h2 : rowsOf r with
      | none => rw [h1, h2] at h; cases h
      | some rs =>
        rw [h1, h2] at h
        cases h
        rw [intsOf_eq h1, rowsOf_eq h2]
        rfl
  | .none :: _, _, h => by cases h
  | .bool _ :: _, _, h => by cases h
  | .int _ :: _, _, h => by cases h
  | .str _ :: _, _, h => by cases h
  | .tuple _ :: _, _, h => by cases h
  | .dict _ :: _, _, h => by cases h
def goodB (rows : List (List Int)) : Bool := decide (rows.length ≤ 8) && rows.all fun row => decide (rows.length ≤ row.length) && row.all fun e => decide (-(2 ^ 64) < e) && decide (e < 2 ^ 64)
theorem goodB_iff {rows : List (List Int)} : goodB rows = true ↔ RowsGood rows := by
  unfold goodB
  simp only [Bool.and_eq_true, decide_eq_true_eq, List.all_eq_true]
  exact ⟨fun h => ⟨h.1, h.2⟩, fun h => ⟨h.few, h.all⟩⟩
def worthR (rows : List (List Int)) : Int := worthN rows rows.length (List.range rows.length)
def g_worth_of : GFn
  | [.list l] => (rowsOf l).bind fun rows => if goodB rows then some (.int (worthR rows), false) else none
  | _ => none
theorem g_worth_of_D {rows : List (List Int)} (h : RowsGood rows) : g_worth_of [.list (rowsD rows)] = some (.int (worthR rows), false) := by
  unfold g_worth_of
  simp only [rowsOf_D, Option.bind_some]
  rw [if_pos (goodB_iff.mpr h)]
theorem rowsAt_of {R H : Hp} {a : Addr} {vs : List V} {rows : List (List Int)} (e : Ex R H) (h : Rq H a (.lst vs)) (hd : DqAll R vs (rowsD rows)) : RowsAt H a rows := by
  refine ⟨vs, h, ?_, fun i row q => ?_⟩
  · rw [dpa_len hd]
    unfold rowsD
    rw [List.length_map]
  · obtain ⟨v, h1, h2⟩ := dpa_get hd (i := i) (d := .list (row.map .int)) (by unfold rowsD; rw [List.getElem?_map, q]; rfl)
    cases h2 with
    | @lst b xs _ q1 q2 =>
      rw [dpa_ints q2] at q1
      exact ⟨b, h1, e _ _ q1⟩
theorem rg_vn (n : Nat) : rgV 0 (n : Nat) = (List.range n).map vn := by
  unfold rgV vn
  simp
theorem HasS.mono {P : Program} {w : World} {K : PySem.W.Frag} {mg : Str → Option Value} {base : Heap} {j k : Nat} {x : Str} {sp : Sp} (h : HasS P w K mg base j x sp) (l : j ≤ k) : HasS P w K mg base k x sp := by
  obtain ⟨f, fd, ps, h1, h2, h3, F⟩ := h
  exact ⟨f, fd, ps, h1, h2, h3, F.mono l⟩
end Fw
namespace Fw
open PySem PySem.Spec PyProof.Rows L2 Evl
/-! the worth by first rows, the rows at hand -/
def lawN : Nat → List (List Int) → Int
  | 0, _ => 1
  | n + 1, rows => wAcc (fun k => cellR rows 0 k * lawN n (rows.tail.map fun r => dropAt r k)) (n + 1)
theorem dropAt_map {α β : Type} (f : α → β) (l : List α) (a : Nat) : dropAt (l.map f) a = (dropAt l a).map f := by
  unfold dropAt
  rw [List.map_append, List.map_take, List.map_drop]
theorem getD_map0 {α : Type} (f : α → Int) (l : List α) (d : α) (k : Nat) (h : k < l.length) : (l.map f).getD k 0 = f (l.getD k d) := by
  rw [List.getD_eq_getElem?_getD, List.getElem?_map, List.getElem?_eq_getElem h, List.getD_eq_getElem?_getD, List.getElem?_eq_getElem h]
  rfl
theorem worth_law (rows : List (List Int)) : ∀ (m : Nat) (ps : List Nat), ps.length = m → m ≤ rows.length → worthN rows m ps = lawN m ((rows.drop (rows.length - m)).map fun row => ps.map fun p => row.getD p 0)
  | 0, _, _, _ => rfl
  | m + 1, ps, h, hm => by
    unfold worthN lawN
    refine wAcc_congr fun a ha => ?_
    have hd : rows.drop (rows.length - (m + 1)) = rows[rows.length - (m + 1)] :: rows.drop (rows.length - m) := by
      rw [List.drop_eq_getElem_cons (by omega), show rows.length - (m + 1) + 1 = rows.length - m by omega]
    rw [hd, List.map_cons, List.tail_cons, List.map_map, worth_law rows m (dropAt ps a) (dropAt_len h ha) (by omega)]
    have c1 : cellR rows (rows.length - (m + 1)) (ps.getD a 0) = cellR ((ps.map fun p => rows[rows.length - (m + 1)].getD p 0) :: (rows.drop (rows.length - m)).map fun row => ps.map fun p => row.getD p 0) 0 a := by
      unfold cellR
      rw [List.getD_cons_zero, getD_map0 _ ps 0 a (by omega), List.getD_eq_getElem?_getD (l := rows), List.getElem?_eq_getElem (show rows.length - (m + 1) < rows.length by omega), Option.getD_some]
    rw [c1]
    congr 2
    refine List.map_congr_left fun row _ => ?_
    exact (dropAt_map _ ps a).symm
theorem worthR_law {rows : List (List Int)} (h : ∀ row ∈ rows, row.length = rows.length) : worthR rows = lawN rows.length rows := by
  unfold worthR
  rw [worth_law rows _ _ List.length_range (Nat.le_refl _), Nat.sub_self, List.drop_zero]
  congr 1
  refine (List.map_congr_left (g := id) fun row hr => ?_).trans (List.map_id _)
  refine List.ext_getElem (by rw [List.length_map, List.length_range]; exact (h row hr).symm) fun i h1 h2 => ?_
  rw [List.getElem_map, List.getElem_range, List.getD_eq_getElem?_getD, List.getElem?_eq_getElem (show i < row.length from h2)]
  rfl
end Fw
namespace Fw
/-! sums -/
def sm (f : Nat → Int) : Nat → Int
  | 0 => 0
  | n + 1 => sm f n + f n
def sgn (k : Nat) : Int := if k % 2 = 0 then 1 else -1
theorem sgn_succ (k : Nat) : sgn (k + 1) = -sgn k := by
  unfold sgn
  split <;> split <;> omega
theorem sgn_sq (k : Nat) : sgn k * sgn k = 1 := by
  unfold sgn
  split <;> rfl
theorem sm_congr {f g : Nat → Int} : ∀ {n : Nat}, (∀ a, a < n → f a = g a) → sm f n = sm g n
  | 0, _ => rfl
  | n + 1, h => by
    show sm f n + f n = sm g n + g n
    rw [sm_congr fun a ha => h a (Nat.lt_succ_of_lt ha), h n (Nat.lt_succ_self n)]
theorem sm_add (f g : Nat → Int) : ∀ n, sm (fun k => f k + g k) n = sm f n + sm g n
  | 0 => rfl
  | n + 1 => by
    show sm (fun k => f k + g k) n + (f n + g n) = (sm f n + f n) + (sm g n + g n)
    rw [sm_add f g n]
    omega
theorem sm_mul (c : Int) (f : Nat → Int) : ∀ n, sm (fun k => c * f k) n = c * sm f n
  | 0 => by show (0 : Int) = c * 0; rw [Int.mul_zero]
  | n + 1 => by
    show sm (fun k => c * f k) n + c * f n = c * (sm f n + f n)
    rw [sm_mul c f n, Int.mul_add]
theorem sm_zero {f : Nat → Int} {n : Nat} (h : ∀ a, a < n → f a = 0) : sm f n = 0 := by
  rw [sm_congr (g := fun _ => 0 * 0) (fun a ha => (h a ha).trans rfl), sm_mul 0 (fun _ => 0) n, Int.zero_mul]
theorem sm_swap (f : Nat → Nat → Int) (m : Nat) : ∀ n, sm (fun k => sm (fun l => f k l) m) n = sm (fun l => sm (fun k => f k l) n) m
  | 0 => (sm_zero fun _ _ => rfl).symm
  | n + 1 => by
    show sm (fun k => sm (fun l => f k l) m) n + sm (fun l => f n l) m = sm (fun l => sm (fun k => f k l) n + f n l) m
    rw [sm_swap f m n, sm_add]
/-- a square of numbers that are alike but for the sign -/
theorem sm_anti {f : Nat → Nat → Int} {n : Nat} (h : ∀ k l, k < n → l < n → f k l = -f l k) : sm (fun k => sm (fun l => f k l) n) n = 0 := by
  have e1 := sm_swap f n n
  have e2 : sm (fun l => sm (fun k => f k l) n) n = sm (fun l => sm (fun k => (-1) * f l k) n) n := sm_congr fun l hl => sm_congr fun k hk => by rw [h k l hk hl, Int.neg_one_mul]
  have e3 : sm (fun l => sm (fun k => (-1) * f l k) n) n = (-1) * sm (fun l => sm (fun k => f l k) n) n := by
    rw [← sm_mul]
    exact sm_congr fun l _ => sm_mul _ _ _
  omega
/-- the j-th place but k -/
def sk (k j : Nat) : Nat := if j < k then j else j + 1
theorem sk_lt {k j n : Nat} (h : j < n) : sk k j < n + 1 := by
  unfold sk
  split <;> omega
theorem sk_ne (k j : Nat) : sk k j ≠ k := by
  unfold sk
  split <;> omega
theorem sm_sk (G : Nat → Int) : ∀ (n k : Nat), k ≤ n → sm (fun l => G (sk k l)) n + G k = sm G (n + 1)
  | 0, k, h => by
    have : k = 0 := by omega
    subst this
    rfl
  | n + 1, k, h => by
    show sm (fun l => G (sk k l)) n + G (sk k n) + G k = sm G (n + 1) + G (n + 1)
    by_cases e : k = n + 1
    · subst e
      have a : sk (n + 1) n = n := if_pos (Nat.lt_succ_self n)
      have b : sm (fun l => G (sk (n + 1) l)) n = sm G n := sm_congr fun l hl => by rw [show sk (n + 1) l = l from if_pos (by omega)]
      rw [a, b]
      rfl
    · have a : sk k n = n + 1 := if_neg (by omega)
      rw [a]
      have := sm_sk G n k (by omega)
      omega
theorem wAcc_sm (f : Nat → Int) : ∀ n, wAcc f n = sm (fun k => sgn k * f k) n
  | 0 => rfl
  | n + 1 => by
    show (if n % 2 = 0 then wAcc f n + f n else wAcc f n - f n) = sm (fun k => sgn k * f k) n + sgn n * f n
    rw [wAcc_sm f n]
    unfold sgn
    split
    · rw [Int.one_mul]
    · rw [Int.neg_one_mul]
      rfl
/-! the worth of a square of numbers -/
abbrev Mx := Nat → Nat → Int
def mn (M : Mx) (k : Nat) : Mx := fun i j => M (i + 1) (sk k j)
def det : Nat → Mx → Int
  | 0, _ => 1
  | n + 1, M => sm (fun k => sgn k * (M 0 k * det n (mn M k))) (n + 1)
theorem det_congr : ∀ {n : Nat} {M N : Mx}, (∀ i j, i < n → j < n → M i j = N i j) → det n M = det n N
  | 0, _, _, _ => rfl
  | n + 1, M, N, h => sm_congr fun k hk => by
    rw [h 0 k (Nat.succ_pos n) hk, det_congr (M := mn M k) (N := mn N k) fun i j hi hj => h _ _ (Nat.succ_lt_succ hi) (sk_lt hj)]
/-- a row that is one and so many times another -/
theorem det_lin {t : Int} : ∀ {n : Nat} {M A B : Mx} {r : Nat}, r < n → (∀ i j, i < n → j < n → i ≠ r → M i j = A i j ∧ B i j = A i j) → (∀ j, j < n → M r j = A r j + t * B r j) → det n M = det n A + t * det n B
  | n + 1, M, A, B, 0, _, h, hr => by
    have hA : ∀ k, k < n + 1 → det n (mn M k) = det n (mn A k) ∧ det n (mn B k) = det n (mn A k) := fun k hk =>
      ⟨det_congr fun i j hi hj => (h _ _ (Nat.succ_lt_succ hi) (sk_lt hj) (Nat.succ_ne_zero i)).1, det_congr fun i j hi hj => (h _ _ (Nat.succ_lt_succ hi) (sk_lt hj) (Nat.succ_ne_zero i)).2⟩
    show sm (fun k => sgn k * (M 0 k * det n (mn M k))) (n + 1) = sm (fun k => sgn k * (A 0 k * det n (mn A k))) (n + 1) + t * sm (fun k => sgn k * (B 0 k * det n (mn B k))) (n + 1)
    rw [← sm_mul, ← sm_add]
    refine sm_congr fun k hk => ?_
    rw [(hA k hk).1, (hA k hk).2, hr k hk, Int.add_mul, Int.mul_add, Int.mul_assoc, Int.mul_left_comm (sgn k) t]
  | n + 1, M, A, B, r + 1, hlt, h, hr => by
    show sm (fun k => sgn k * (M 0 k * det n (mn M k))) (n + 1) = sm (fun k => sgn k * (A 0 k * det n (mn A k))) (n + 1) + t * sm (fun k => sgn k * (B 0 k * det n (mn B k))) (n + 1)
    rw [← sm_mul, ← sm_add]
    refine sm_congr fun k hk => ?_
    have h0 := h 0 k (Nat.succ_pos n) hk (Nat.succ_ne_zero r).symm
    rw [det_lin (t := t) (M := mn M k) (A := mn A k) (B := mn B k) (r := r) (by omega) (fun i j hi hj hne => h _ _ (Nat.succ_lt_succ hi) (sk_lt hj) (fun z => hne (by omega))) (fun j hj => hr _ (sk_lt hj)), h0.1, h0.2, Int.mul_add, Int.mul_add]
    rw [Int.mul_left_comm (A 0 k) t, Int.mul_left_comm (sgn k) t]
theorem sk_sk {k l : Nat} (h : k ≤ l) (j : Nat) : sk k (sk l j) = sk (l + 1) (sk k j) := by
  unfold sk
  (repeat' split) <;> omega
theorem det_eq01 {n : Nat} {M : Mx} (h : ∀ j, j < n + 2 → M 0 j = M 1 j) : det (n + 2) M = 0 := by
  generalize hE : (fun a b : Nat => det n (fun i j => M (i + 2) (sk b (sk a j)))) = E
  have hEe : ∀ a b, det n (fun i j => M (i + 2) (sk b (sk a j))) = E a b := fun a b => by rw [← hE]
  generalize hG : (fun k c : Nat => if c < k then sgn c * (M 1 c * E c k) else if c = k then 0 else -(sgn c * (M 1 c * E k c))) = G
  have hGe : ∀ k c, G k c = if c < k then sgn c * (M 1 c * E c k) else if c = k then 0 else -(sgn c * (M 1 c * E k c)) := fun k c => by rw [← hG]
  have inner : ∀ k, k < n + 2 → det (n + 1) (mn M k) = sm (G k) (n + 2) := fun k hk => by
    have e1 : det (n + 1) (mn M k) = sm (fun l => G k (sk k l)) (n + 1) := sm_congr fun l hl => by
      rw [hGe]
      by_cases hlk : l < k
      · have a : sk k l = l := if_pos hlk
        rw [a, if_pos hlk]
        show sgn l * (M 1 (sk k l) * det n (mn (mn M k) l)) = _
        rw [a, ← hEe]
        rfl
      · have a : sk k l = l + 1 := if_neg hlk
        rw [a, if_neg (by omega), if_neg (by omega), sgn_succ, Int.neg_mul, Int.neg_neg, ← hEe]
        show sgn l * (M 1 (sk k l) * det n (mn (mn M k) l)) = _
        have e2 : det n (mn (mn M k) l) = det n (fun i j => M (i + 2) (sk (l + 1) (sk k j))) := det_congr fun i j _ _ => by
          show M (i + 2) (sk k (sk l j)) = _
          rw [sk_sk (by omega)]
        rw [a, e2]
    have e2 : sm (fun l => G k (sk k l)) (n + 1) + G k k = sm (G k) (n + 2) := sm_sk (G k) (n + 1) k (by omega)
    have e3 : G k k = 0 := by rw [hGe, if_neg (by omega), if_pos rfl]
    rw [e1]
    omega
  show sm (fun k => sgn k * (M 0 k * det (n + 1) (mn M k))) (n + 2) = 0
  rw [sm_congr (g := fun k => sm (fun c => sgn k * (M 0 k * G k c)) (n + 2)) fun k hk => by rw [inner k hk, sm_mul, sm_mul]]
  refine sm_anti fun k c hk hc => ?_
  rw [hGe, hGe, h k hk, h c hc]
  by_cases e : k = c
  · subst e
    rw [if_neg (by omega), if_pos rfl, Int.mul_zero, Int.mul_zero]
    rfl
  · by_cases e2 : c < k
    · rw [if_pos e2, if_neg (by omega), if_neg (by omega)]
      simp only [Int.mul_neg, Int.neg_neg]
      generalize E c k = x
      simp only [Int.mul_assoc, Int.mul_left_comm, Int.mul_comm]
    · rw [if_neg e2, if_neg (by omega), if_pos (by omega)]
      simp only [Int.mul_neg, Int.neg_inj]
      generalize E k c = x
      simp only [Int.mul_assoc, Int.mul_left_comm, Int.mul_comm]
theorem det_adj : ∀ {n r : Nat} {M : Mx}, r + 1 < n → (∀ j, j < n → M r j = M (r + 1) j) → det n M = 0
  | 0, _, _, h, _ => by omega
  | 1, _, _, h, _ => by omega
  | n + 2, 0, _, _, e => det_eq01 e
  | n + 2, r + 1, M, h, e => sm_zero fun k hk => by
    rw [det_adj (M := mn M k) (r := r) (by omega) fun j hj => e _ (sk_lt hj), Int.mul_zero, Int.mul_zero]
def sw (M : Mx) (p q : Nat) : Mx := fun i j => M (if i = p then q else if i = q then p else i) j
theorem swap_of {n p q : Nat} (hp : p < n) (hq : q < n) (hpq : p ≠ q) (alt : ∀ M : Mx, (∀ j, j < n → M p j = M q j) → det n M = 0) (M : Mx) : det n (sw M p q) = -det n M := by
  obtain ⟨Z, hZ⟩ : ∃ Z : (Nat → Int) → (Nat → Int) → Mx, Z = fun x y i j => if i = p then x j else if i = q then y j else M i j := ⟨_, rfl⟩
  have zp : ∀ x y j, Z x y p j = x j := fun x y j => by rw [hZ]; exact if_pos rfl
  have zq : ∀ x y j, Z x y q j = y j := fun x y j => by rw [hZ]; exact (if_neg (fun z => hpq z.symm)).trans (if_pos rfl)
  have zo : ∀ x y i j, i ≠ p → i ≠ q → Z x y i j = M i j := fun x y i j a b => by rw [hZ]; exact (if_neg a).trans (if_neg b)
  have l1 : ∀ a b y, det n (Z (fun j => a j + 1 * b j) y) = det n (Z a y) + 1 * det n (Z b y) := fun a b y => det_lin hp (fun i j _ _ hne => by
    by_cases e : i = q
    · rw [e]
      exact ⟨(zq _ _ _).trans (zq _ _ _).symm, (zq _ _ _).trans (zq _ _ _).symm⟩
    · exact ⟨(zo _ _ _ _ hne e).trans (zo _ _ _ _ hne e).symm, (zo _ _ _ _ hne e).trans (zo _ _ _ _ hne e).symm⟩) fun j _ => by
      rw [zp (fun j => a j + 1 * b j) y j, zp a y j, zp b y j]
  have l2 : ∀ x a b, det n (Z x (fun j => a j + 1 * b j)) = det n (Z x a) + 1 * det n (Z x b) := fun x a b => det_lin hq (fun i j _ _ hne => by
    by_cases e : i = p
    · rw [e]
      exact ⟨(zp _ _ _).trans (zp _ _ _).symm, (zp _ _ _).trans (zp _ _ _).symm⟩
    · exact ⟨(zo _ _ _ _ e hne).trans (zo _ _ _ _ e hne).symm, (zo _ _ _ _ e hne).trans (zo _ _ _ _ e hne).symm⟩) fun j _ => by
      rw [zq x (fun j => a j + 1 * b j) j, zq x a j, zq x b j]
  have al : ∀ x, det n (Z x x) = 0 := fun x => alt _ fun j _ => by rw [zp, zq]
  have h0 := al fun j => M p j + 1 * M q j
  rw [l1, l2, l2, al, al] at h0
  have e1 : det n (Z (M p) (M q)) = det n M := det_congr fun i j _ _ => by
    by_cases e : i = p
    · subst e
      exact zp _ _ _
    · by_cases e' : i = q
      · subst e'
        exact zq _ _ _
      · exact zo _ _ _ _ e e'
  have e2 : det n (Z (M q) (M p)) = det n (sw M p q) := det_congr fun i j _ _ => by
    unfold sw
    by_cases e : i = p
    · subst e
      rw [if_pos rfl]
      exact zp _ _ _
    · by_cases e' : i = q
      · subst e'
        rw [if_neg e, if_pos rfl]
        exact zq _ _ _
      · rw [if_neg e, if_neg e']
        exact zo _ _ _ _ e e'
  rw [← e1, ← e2]
  omega
theorem det_alt_d : ∀ (d : Nat) {n p : Nat} {M : Mx}, p + d + 1 < n → (∀ j, j < n → M p j = M (p + d + 1) j) → det n M = 0
  | 0, _, _, _, h, e => det_adj h e
  | d + 1, n, p, M, h, e => by
    have hs := swap_of (n := n) (p := p + d + 1) (q := p + d + 2) (by omega) (by omega) (by omega) (fun N hN => det_adj (by omega) hN) M
    have h0 : det n (sw M (p + d + 1) (p + d + 2)) = 0 := det_alt_d d (p := p) (by omega) fun j hj => by
      unfold sw
      rw [if_neg (by omega), if_neg (by omega), if_pos rfl]
      exact e j hj
    omega
theorem det_alt {n p q : Nat} {M : Mx} (hp : p < n) (hq : q < n) (hpq : p ≠ q) (e : ∀ j, j < n → M p j = M q j) : det n M = 0 := by
  by_cases h : p < q
  · obtain ⟨d, rfl⟩ : ∃ d, q = p + d + 1 := ⟨q - p - 1, by omega⟩
    exact det_alt_d d hq e
  · obtain ⟨d, rfl⟩ : ∃ d, p = q + d + 1 := ⟨p - q - 1, by omega⟩
    exact det_alt_d d hp fun j hj => (e j hj).symm
theorem det_swap {n p q : Nat} (hp : p < n) (hq : q < n) (hpq : p ≠ q) (M : Mx) : det n (sw M p q) = -det n M := swap_of hp hq hpq (fun _ e => det_alt hp hq hpq e) M
/-- so many times one row added to another -/
theorem det_addRow {n p q : Nat} {t : Int} {M N : Mx} (hp : p < n) (hq : q < n) (hpq : p ≠ q) (h : ∀ i j, i < n → j < n → i ≠ p → N i j = M i j) (h2 : ∀ j, j < n → N p j = M p j + t * M q j) : det n N = det n M := by
  have := det_lin (t := t) (M := N) (A := M) (B := fun i j => if i = p then M q j else M i j) hp (fun i j hi hj hne => ⟨h i j hi hj hne, if_neg hne⟩) fun j hj => by rw [if_pos rfl]; exact h2 j hj
  rw [this, det_alt (M := fun i j => if i = p then M q j else M i j) hp hq hpq (fun j _ => by rw [if_pos rfl, if_neg (fun z => hpq z.symm)]), Int.mul_zero, Int.add_zero]
theorem sm_first (f : Nat → Int) : ∀ n, sm f (n + 1) = f 0 + sm (fun k => f (k + 1)) n
  | 0 => by show (0 : Int) + f 0 = f 0 + 0; omega
  | n + 1 => by
    show sm f (n + 1) + f (n + 1) = f 0 + (sm (fun k => f (k + 1)) n + f (n + 1))
    rw [sm_first f n]
    omega
theorem det_col0 : ∀ {n : Nat} {M : Mx}, (∀ i, i < n + 1 → M i 0 = 0) → det (n + 1) M = 0
  | n, M, h => sm_zero fun k hk => by
    cases k with
    | zero => rw [h 0 (Nat.succ_pos n), Int.zero_mul, Int.mul_zero]
    | succ k =>
      cases n with
      | zero => omega
      | succ n =>
        rw [det_col0 (M := mn M (k + 1)) fun i hi => h _ (Nat.succ_lt_succ hi), Int.mul_zero, Int.mul_zero]
def pr (f : Nat → Int) : Nat → Int
  | 0 => 1
  | n + 1 => pr f n * f n
theorem pr_first (f : Nat → Int) : ∀ n, pr f (n + 1) = f 0 * pr (fun k => f (k + 1)) n
  | 0 => by show (1 : Int) * f 0 = f 0 * 1; omega
  | n + 1 => by
    show pr f (n + 1) * f (n + 1) = f 0 * (pr (fun k => f (k + 1)) n * f (n + 1))
    rw [pr_first f n, Int.mul_assoc]
theorem det_tri : ∀ {n : Nat} {M : Mx}, (∀ i j, i < n → j < i → M i j = 0) → det n M = pr (fun i => M i i) n
  | 0, _, _ => rfl
  | n + 1, M, h => by
    show sm (fun k => sgn k * (M 0 k * det n (mn M k))) (n + 1) = _
    rw [sm_first, pr_first, sm_zero fun k hk => ?_]
    · have e : det n (mn M 0) = pr (fun i => M (i + 1) (i + 1)) n := det_tri (M := mn M 0) fun i j hi hj => h _ _ (Nat.succ_lt_succ hi) (Nat.succ_lt_succ hj)
      rw [e, show sgn 0 = 1 from rfl, Int.one_mul, Int.add_zero]
    · cases n with
      | zero => omega
      | succ n =>
        rw [det_col0 (M := mn M (k + 1)) fun i hi => h _ _ (Nat.succ_lt_succ hi) (Nat.succ_pos i), Int.mul_zero, Int.mul_zero]
/-! rows at hand -/
theorem dropAt_get {α : Type} (l : List α) (k j : Nat) (hk : k ≤ l.length) : (dropAt l k)[j]? = l[sk k j]? := by
  unfold dropAt sk
  split
  · rename_i h
    rw [List.getElem?_append_left (by rw [List.length_take]; omega), List.getElem?_take_of_lt h]
  · rename_i h
    rw [List.getElem?_append_right (by rw [List.length_take]; omega), List.getElem?_drop, List.length_take]
    congr 1
    omega
theorem lawN_det : ∀ (n : Nat) (rows : List (List Int)), rows.length = n → (∀ row ∈ rows, row.length = n) → lawN n rows = det n (cellR rows)
  | 0, _, _, _ => rfl
  | n + 1, [], h, _ => by cases h
  | n + 1, r0 :: rest, h, hr => by
    show wAcc (fun k => cellR (r0 :: rest) 0 k * lawN n (rest.map fun r => dropAt r k)) (n + 1) = sm (fun k => sgn k * (cellR (r0 :: rest) 0 k * det n (mn (cellR (r0 :: rest)) k))) (n + 1)
    rw [wAcc_sm]
    refine sm_congr fun k hk => ?_
    have hl : rest.length = n := by simpa using h
    rw [lawN_det n _ (by rw [List.length_map]; exact hl) fun row hrow => ?_]
    · congr 2
      refine det_congr fun i j hi hj => ?_
      have hi' : i < rest.length := by omega
      have hri := hr _ (List.mem_cons_of_mem r0 (List.getElem_mem hi'))
      show ((rest.map fun r => dropAt r k).getD i []).getD j 0 = ((r0 :: rest).getD (i + 1) []).getD (sk k j) 0
      rw [List.getD_cons_succ, List.getD_eq_getElem?_getD (l := rest.map _), List.getElem?_map, List.getD_eq_getElem?_getD (l := rest), List.getElem?_eq_getElem hi']
      show (dropAt rest[i] k).getD j 0 = rest[i].getD (sk k j) 0
      rw [List.getD_eq_getElem?_getD, List.getD_eq_getElem?_getD, dropAt_get _ _ _ (by omega)]
    · obtain ⟨r, h1, rfl⟩ := List.mem_map.mp hrow
      exact dropAt_len (hr r (List.mem_cons_of_mem _ h1)) hk
theorem worthR_det {rows : List (List Int)} (h : ∀ row ∈ rows, row.length = rows.length) : worthR rows = det rows.length (cellR rows) := (worthR_law h).trans (lawN_det _ rows rfl h)
end Fw
namespace Fw
theorem sgn_add (a b : Nat) : sgn (a + b) = sgn a * sgn b := by
  unfold sgn
  by_cases h : a % 2 = 0
  · by_cases h2 : b % 2 = 0
    · rw [if_pos h, if_pos h2, if_pos (by omega)]; rfl
    · rw [if_pos h, if_neg h2, if_neg (by omega)]; rfl
  · by_cases h2 : b % 2 = 0
    · rw [if_neg h, if_pos h2, if_neg (by omega)]; rfl
    · rw [if_neg h, if_neg h2, if_pos (by omega)]; rfl
/-- a row with one 1 alone -/
theorem det_unit : ∀ {n r c : Nat} {M : Mx}, r < n + 1 → c < n + 1 → (∀ j, j < n + 1 → M r j = if j = c then 1 else 0) → det (n + 1) M = sgn (r + c) * det n (fun i j => M (sk r i) (sk c j))
  | n, 0, c, M, _, hc, h => by
    show sm (fun k => sgn k * (M 0 k * det n (mn M k))) (n + 1) = _
    have e := sm_sk (fun k => sgn k * (M 0 k * det n (mn M k))) n c (by omega)
    have z : sm (fun l => sgn (sk c l) * (M 0 (sk c l) * det n (mn M (sk c l)))) n = 0 := sm_zero fun l hl => by
      rw [h _ (sk_lt hl), if_neg (sk_ne c l), Int.zero_mul, Int.mul_zero]
    rw [← e, z, h c hc, if_pos rfl, Int.zero_add, Int.one_mul, Nat.zero_add]
    rfl
  | 0, r + 1, _, _, h, _, _ => by omega
  | n + 1, r + 1, c, M, hr, hc, h => by
    show sm (fun k => sgn k * (M 0 k * det (n + 1) (mn M k))) (n + 2) = sgn (r + 1 + c) * sm (fun l => sgn l * (M 0 (sk c l) * det n (mn (fun i j => M (sk (r + 1) i) (sk c j)) l))) (n + 1)
    have e := sm_sk (fun k => sgn k * (M 0 k * det (n + 1) (mn M k))) (n + 1) c (by omega)
    have z : det (n + 1) (mn M c) = 0 := by
      have h1 := det_lin (t := -1) (M := mn M c) (A := mn M c) (B := mn M c) (r := r) (n := n + 1) (by omega) (fun i j _ _ _ => ⟨rfl, rfl⟩) fun j hj => by
        show M (r + 1) (sk c j) = M (r + 1) (sk c j) + -1 * M (r + 1) (sk c j)
        rw [h _ (sk_lt hj), if_neg (sk_ne c j)]
        rfl
      omega
    rw [z, Int.mul_zero, Int.mul_zero, Int.add_zero] at e
    rw [← e, ← sm_mul]
    refine sm_congr fun l hl => ?_
    by_cases hlc : l < c
    · have a : sk c l = l := if_pos hlc
      have hu := det_unit (M := mn M l) (r := r) (c := c - 1) (n := n) (by omega) (by omega) fun j hj => by
        show M (r + 1) (sk l j) = _
        rw [h _ (sk_lt hj)]
        by_cases hj2 : j = c - 1
        · rw [if_pos hj2, if_pos (by unfold sk; split <;> omega)]
        · rw [if_neg hj2, if_neg (by unfold sk; split <;> omega)]
      rw [a, hu, show r + 1 + c = (r + (c - 1)) + 2 by omega, sgn_add (r + (c - 1)) 2, show sgn 2 = 1 from rfl, Int.mul_one]
      have e2 : det n (fun i j => mn M l (sk r i) (sk (c - 1) j)) = det n (mn (fun i j => M (sk (r + 1) i) (sk c j)) l) := det_congr fun i j _ _ => by
        show M (sk r i + 1) (sk l (sk (c - 1) j)) = M (sk (r + 1) (i + 1)) (sk c (sk l j))
        have q1 : sk r i + 1 = sk (r + 1) (i + 1) := by unfold sk; split <;> split <;> omega
        have q2 : sk l (sk (c - 1) j) = sk c (sk l j) := by
          have := sk_sk (k := l) (l := c - 1) (by omega) j
          rw [show c - 1 + 1 = c by omega] at this
          exact this
        rw [q1, q2]
      rw [e2]
      simp only [Int.mul_assoc, Int.mul_left_comm, Int.mul_comm]
    · have a : sk c l = l + 1 := if_neg hlc
      have hu := det_unit (M := mn M (l + 1)) (r := r) (c := c) (n := n) (by omega) (by omega) fun j hj => by
        show M (r + 1) (sk (l + 1) j) = _
        rw [h _ (sk_lt hj)]
        by_cases hj2 : j = c
        · rw [if_pos hj2, if_pos (by unfold sk; split <;> omega)]
        · rw [if_neg hj2, if_neg (by unfold sk; split <;> omega)]
      rw [a, hu, sgn_succ, show r + 1 + c = (r + c) + 1 by omega, sgn_succ]
      have e2 : det n (fun i j => mn M (l + 1) (sk r i) (sk c j)) = det n (mn (fun i j => M (sk (r + 1) i) (sk c j)) l) := det_congr fun i j _ _ => by
        show M (sk r i + 1) (sk (l + 1) (sk c j)) = M (sk (r + 1) (i + 1)) (sk c (sk l j))
        have q1 : sk r i + 1 = sk (r + 1) (i + 1) := by unfold sk; split <;> split <;> omega
        rw [q1, sk_sk (k := c) (l := l) (by omega) j]
      rw [e2]
      simp only [Int.neg_mul, Int.mul_neg, Int.mul_assoc, Int.mul_left_comm, Int.mul_comm]
def tr (M : Mx) : Mx := fun i j => M j i
theorem sk_zero (j : Nat) : sk 0 j = j + 1 := rfl
theorem sk_ss (k j : Nat) : sk (k + 1) (j + 1) = sk k j + 1 := by
  unfold sk
  split <;> split <;> omega
theorem sk_s0 (k : Nat) : sk (k + 1) 0 = 0 := rfl
/-- rows and columns turned about -/
theorem det_tr : ∀ (n : Nat) (M : Mx), det n (tr M) = det n M
  | 0, _ => rfl
  | 1, M => rfl
  | n + 2, M => by
    have key : ∀ M : Mx, det (n + 2) M = sgn 0 * (M 0 0 * det (n + 1) (mn M 0)) + sm (fun k => sm (fun i => sgn (k + 1) * sgn i * (M 0 (k + 1) * M (i + 1) 0) * det n (fun a b => M (sk i b + 1) (sk k a + 1))) (n + 1)) (n + 1) := fun M => by
      show sm (fun k => sgn k * (M 0 k * det (n + 1) (mn M k))) (n + 2) = _
      rw [sm_first]
      congr 1
      refine sm_congr fun k hk => ?_
      rw [← det_tr (n + 1) (mn M (k + 1))]
      show sgn (k + 1) * (M 0 (k + 1) * sm (fun i => sgn i * (M (i + 1) (sk (k + 1) 0) * det n (mn (tr (mn M (k + 1))) i))) (n + 1)) = _
      rw [← sm_mul, ← sm_mul]
      refine sm_congr fun i hi => ?_
      have e : det n (mn (tr (mn M (k + 1))) i) = det n (fun a b => M (sk i b + 1) (sk k a + 1)) := det_congr fun a b _ _ => by
        show M (sk i b + 1) (sk (k + 1) (a + 1)) = _
        rw [sk_ss]
      rw [e, sk_s0]
      simp only [Int.mul_assoc, Int.mul_left_comm, Int.mul_comm]
    rw [key M, key (tr M)]
    have e0 : det (n + 1) (mn (tr M) 0) = det (n + 1) (mn M 0) := det_tr (n + 1) (mn M 0)
    rw [e0]
    congr 1
    rw [sm_swap]
    refine sm_congr fun i hi => sm_congr fun k hk => ?_
    have e1 : det n (fun a b => tr M (sk i b + 1) (sk k a + 1)) = det n (fun a b => M (sk k b + 1) (sk i a + 1)) := det_tr n (fun a b => M (sk k b + 1) (sk i a + 1))
    rw [e1, sgn_succ, sgn_succ]
    show -sgn k * sgn i * (M (k + 1) 0 * M 0 (i + 1)) * _ = _
    simp only [Int.neg_mul, Int.mul_neg, Int.mul_assoc, Int.mul_left_comm, Int.mul_comm]
termination_by n => n
/-- rows that come to nought together -/
theorem det_sum0 {n : Nat} {M : Mx} (hn : 0 < n) (h : ∀ j, j < n → sm (fun i => M i j) n = 0) : det n M = 0 := by
  have step : ∀ m, m < n → det n (fun i j => if i = 0 then sm (fun i => M i j) (m + 1) else M i j) = det n M := by
    intro m
    induction m with
    | zero =>
      intro _
      refine det_congr fun i j _ _ => ?_
      by_cases e : i = 0
      · subst e
        rw [if_pos rfl]
        show (0 : Int) + M 0 j = M 0 j
        omega
      · rw [if_neg e]
    | succ m ih =>
      intro hm
      rw [← ih (by omega)]
      refine det_addRow (t := 1) (p := 0) (q := m + 1) hn hm (by omega) (fun i j _ _ e => by rw [if_neg e, if_neg e]) fun j _ => ?_
      rw [if_pos rfl, if_pos rfl, if_neg (by omega), Int.one_mul]
      rfl
  rw [← step (n - 1) (by omega), show n - 1 + 1 = n by omega]
  have z := det_lin (t := -1) (r := 0) (M := fun i j => if i = 0 then sm (fun i => M i j) n else M i j) (A := fun i j => if i = 0 then sm (fun i => M i j) n else M i j) (B := fun i j => if i = 0 then sm (fun i => M i j) n else M i j) hn (fun i j _ _ _ => ⟨rfl, rfl⟩) fun j hj => by
    rw [if_pos rfl, h j hj]
    rfl
  omega
theorem det_row0 {n : Nat} {M : Mx} (hn : 0 < n) (h : ∀ i, i < n → sm (fun j => M i j) n = 0) : det n M = 0 := by
  rw [← det_tr]
  exact det_sum0 hn h
def setR (M : Mx) (r : Nat) (v : Nat → Int) : Mx := fun i j => if i = r then v j else M i j
theorem setR_at {M : Mx} {r : Nat} {v : Nat → Int} (j : Nat) : setR M r v r j = v j := if_pos rfl
theorem setR_ne {M : Mx} {r i : Nat} {v : Nat → Int} (h : i ≠ r) (j : Nat) : setR M r v i j = M i j := if_neg h
theorem det_zero {n r : Nat} {M : Mx} (hr : r < n) (h : ∀ j, j < n → M r j = 0) : det n M = 0 := by
  have := det_lin (t := -1) (r := r) (M := M) (A := M) (B := M) hr (fun i j _ _ _ => ⟨rfl, rfl⟩) fun j hj => by
    rw [h j hj]
    rfl
  omega
theorem det_smRow {n r : Nat} {M : Mx} (hr : r < n) (f : Nat → Nat → Int) : ∀ m, det n (setR M r fun j => sm (fun i => f i j) m) = sm (fun i => det n (setR M r (f i))) m
  | 0 => det_zero hr fun j _ => setR_at j
  | m + 1 => by
    show _ = sm (fun i => det n (setR M r (f i))) m + det n (setR M r (f m))
    rw [← det_smRow hr f m, det_lin (t := 1) (r := r) (M := setR M r fun j => sm (fun i => f i j) (m + 1)) (A := setR M r fun j => sm (fun i => f i j) m) (B := setR M r (f m)) hr
      (fun i j _ _ e => ⟨(setR_ne e j).trans (setR_ne e j).symm, (setR_ne e j).trans (setR_ne e j).symm⟩) (fun j _ => by rw [setR_at, setR_at, setR_at, Int.one_mul]; rfl), Int.one_mul]
theorem sm_one {f : Nat → Int} {p : Nat} : ∀ {n : Nat}, p < n → (∀ i, i < n → i ≠ p → f i = 0) → sm f n = f p
  | n + 1, hp, h => by
    show sm f n + f n = f p
    by_cases e : p = n
    · subst e
      rw [sm_zero fun i hi => h i (by omega) (by omega), Int.zero_add]
    · rw [sm_one (p := p) (by omega) fun i hi hne => h i (by omega) hne, h n (by omega) (by omega), Int.add_zero]
theorem sm_two {f : Nat → Int} {p q : Nat} {n : Nat} (hp : p < n) (hq : q < n) (hpq : p ≠ q) (h : ∀ i, i < n → i ≠ p → i ≠ q → f i = 0) : sm f n = f p + f q := by
  have e : sm f n = sm (fun i => (if i = p then f p else 0) + (if i = q then f q else 0)) n := sm_congr fun i hi => by
    by_cases e1 : i = p
    · subst e1
      rw [if_pos rfl, if_neg hpq, Int.add_zero]
    · by_cases e2 : i = q
      · subst e2
        rw [if_neg e1, if_pos rfl, Int.zero_add]
      · rw [if_neg e1, if_neg e2, h i hi e1 e2]
        rfl
  rw [e, sm_add, sm_one hp fun i _ e => if_neg e, sm_one hq fun i _ e => if_neg e, if_pos rfl, if_pos rfl]
def unitR (c : Nat) : Nat → Int := fun j => if j = c then 1 else 0
/-- where the rows come to nought together, it is alike in which row the 1 alone stands -/
theorem cof_row {n p q c : Nat} {L : Mx} (hp : p < n) (hq : q < n) (h : ∀ j, j < n → sm (fun i => L i j) n = 0) : det n (setR L p (unitR c)) = det n (setR L q (unitR c)) := by
  by_cases hpq : p = q
  · rw [hpq]
  have s0 : det n (setR (setR L p (unitR c)) q fun j => sm (fun i => L i j) n) = 0 := det_zero hq fun j hj => (setR_at j).trans (h j hj)
  rw [det_smRow hq, sm_two hp hq hpq fun i hi e1 e2 => det_alt hi hq e2 fun j _ => by rw [setR_ne e2, setR_ne e1, setR_at]] at s0
  have e1 : det n (setR (setR L p (unitR c)) q (L q)) = det n (setR L p (unitR c)) := det_congr fun i j _ _ => by
    by_cases e : i = q
    · subst e
      rw [setR_at, setR_ne (fun z => hpq z.symm)]
    · rw [setR_ne e]
  have e2 : det n (setR (setR L p (unitR c)) q (L p)) = -det n (setR L q (unitR c)) := by
    rw [← det_swap hp hq hpq]
    refine det_congr fun i j _ _ => ?_
    unfold sw
    by_cases e : i = p
    · subst e
      rw [if_pos rfl, setR_at, setR_ne hpq, setR_at]
    · rw [if_neg e]
      by_cases e' : i = q
      · subst e'
        rw [if_pos rfl, setR_at, setR_ne hpq]
      · rw [if_neg e', setR_ne e', setR_ne e, setR_ne e']
  rw [e1, e2] at s0
  omega
theorem cof_minor {n r c : Nat} {L : Mx} (hr : r < n + 1) (hc : c < n + 1) : det (n + 1) (setR L r (unitR c)) = sgn (r + c) * det n (fun i j => L (sk r i) (sk c j)) := by
  have e := det_unit (M := setR L r (unitR c)) hr hc fun j _ => setR_at j
  rw [e]
  congr 1
  exact det_congr fun i j _ _ => setR_ne (sk_ne r i) _
/-- a table whose rows and columns come to nought: without any one place it is worth the same -/
theorem minors_same {n p q : Nat} {L : Mx} (hp : p < n + 1) (hq : q < n + 1) (hc : ∀ j, j < n + 1 → sm (fun i => L i j) (n + 1) = 0) (hr : ∀ i, i < n + 1 → sm (fun j => L i j) (n + 1) = 0) :
    det n (fun i j => L (sk p i) (sk p j)) = det n (fun i j => L (sk q i) (sk q j)) := by
  have sq : ∀ k, sgn (k + k) = 1 := fun k => by rw [sgn_add, sgn_sq]
  have a1 := cof_minor (L := L) hp hp
  have a2 := cof_minor (L := L) hq hp
  have a3 := cof_row (c := p) hp hq hc
  have b1 := cof_minor (L := tr L) hq hq
  have b2 := cof_minor (L := tr L) hp hq
  have b3 := cof_row (c := q) (L := tr L) hp hq hr
  have t1 : det n (fun i j => tr L (sk q i) (sk q j)) = det n (fun i j => L (sk q i) (sk q j)) := det_tr n (fun i j => L (sk q i) (sk q j))
  have t2 : det n (fun i j => tr L (sk p i) (sk q j)) = det n (fun i j => L (sk q i) (sk p j)) := det_tr n (fun i j => L (sk q i) (sk p j))
  rw [sq, Int.one_mul] at a1 b1
  rw [t1] at b1
  rw [t2, Nat.add_comm p q] at b2
  rw [← a1, a3, a2, ← b2, b3, b1]
end Fw
namespace Fw
/-! the table of a net -/
def tieL (t : Nat × Nat) : Mx := fun i j => if t.1 = t.2 then 0 else if i = j then (if i = t.1 ∨ i = t.2 then 1 else 0) else if (i = t.1 ∧ j = t.2) ∨ (i = t.2 ∧ j = t.1) then -1 else 0
def lap : List (Nat × Nat) → Mx
  | [] => fun _ _ => 0
  | t :: ts => fun i j => tieL t i j + lap ts i j
theorem lap_erase {t : Nat × Nat} : ∀ {ts : List (Nat × Nat)}, t ∈ ts → ∀ i j, lap ts i j = tieL t i j + lap (ts.erase t) i j
  | a :: r, h, i, j => by
    by_cases e : a = t
    · subst e
      rw [List.erase_cons_head]
      rfl
    · have h' : t ∈ r := (List.mem_cons.mp h).elim (fun z => absurd z.symm e) id
      rw [List.erase_cons_tail (by simpa using e)]
      show tieL a i j + lap r i j = tieL t i j + (tieL a i j + lap (r.erase t) i j)
      rw [lap_erase h' i j]
      omega
theorem tieL_sym (t : Nat × Nat) (i j : Nat) : tieL t i j = tieL t j i := by
  unfold tieL
  by_cases h : t.1 = t.2
  · rw [if_pos h, if_pos h]
  · rw [if_neg h, if_neg h]
    by_cases e : i = j
    · rw [e]
    · rw [if_neg e, if_neg (show ¬ j = i from fun z => e z.symm)]
      by_cases c : (i = t.1 ∧ j = t.2) ∨ (i = t.2 ∧ j = t.1)
      · rw [if_pos c, if_pos (by omega)]
      · rw [if_neg c, if_neg (by omega)]
theorem lap_sym : ∀ (ts : List (Nat × Nat)) (i j : Nat), lap ts i j = lap ts j i
  | [], _, _ => rfl
  | t :: ts, i, j => by
    show tieL t i j + lap ts i j = tieL t j i + lap ts j i
    rw [tieL_sym, lap_sym ts]
/-- the places at hand, by their turn -/
def atP (pl : List Nat) (i : Nat) : Nat := pl.getD i 0
theorem atP_in {pl : List Nat} {i : Nat} (h : i < pl.length) : atP pl i = pl[i] := by
  unfold atP
  rw [List.getD_eq_getElem?_getD, List.getElem?_eq_getElem h]
  rfl
theorem atP_mem {pl : List Nat} {i : Nat} (h : i < pl.length) : atP pl i ∈ pl := by
  rw [atP_in h]
  exact List.getElem_mem h
theorem atP_inj {pl : List Nat} (hn : pl.Nodup) {i j : Nat} (hi : i < pl.length) (hj : j < pl.length) (h : atP pl i = atP pl j) : i = j := by
  rw [atP_in hi, atP_in hj] at h
  exact (List.getElem_inj hn).mp h
theorem atP_of {pl : List Nat} {x : Nat} (h : x ∈ pl) : ∃ i, i < pl.length ∧ atP pl i = x := by
  obtain ⟨i, hi, e⟩ := List.mem_iff_getElem.mp h
  exact ⟨i, hi, (atP_in hi).trans e⟩
theorem tieL_off {t : Nat × Nat} {i j : Nat} (h : i ≠ t.1 ∧ i ≠ t.2) : tieL t i j = 0 := by
  unfold tieL
  split
  · rfl
  · split
    · exact if_neg (by omega)
    · exact if_neg (by omega)
theorem tie_sum {pl : List Nat} (hn : pl.Nodup) {t : Nat × Nat} (h : t.1 ∈ pl ↔ t.2 ∈ pl) {i : Nat} (hi : i < pl.length) : sm (fun j => tieL t (atP pl i) (atP pl j)) pl.length = 0 := by
  by_cases e : t.1 = t.2
  · exact sm_zero fun j _ => if_pos e
  by_cases h1 : atP pl i = t.1 ∨ atP pl i = t.2
  · have main : ∀ a b : Nat, a ≠ b → ((a = t.1 ∧ b = t.2) ∨ (a = t.2 ∧ b = t.1)) → atP pl i = a → sm (fun j => tieL t (atP pl i) (atP pl j)) pl.length = 0 := fun a b hab hc ha => by
      have hb : b ∈ pl := by
        have : a ∈ pl := by rw [← ha]; exact atP_mem hi
        rcases hc with ⟨rfl, rfl⟩ | ⟨rfl, rfl⟩
        · exact h.mp this
        · exact h.mpr this
      obtain ⟨q, hq, eq⟩ := atP_of hb
      have hiq : i ≠ q := fun z => by
        subst z
        rw [ha] at eq
        exact hab eq
      rw [sm_two hi hq hiq fun j hj n1 n2 => ?_]
      · have t1 : tieL t (atP pl i) (atP pl i) = 1 := by
          unfold tieL
          rw [if_neg e, if_pos rfl, if_pos (by omega)]
        have t2 : tieL t (atP pl i) (atP pl q) = -1 := by
          unfold tieL
          rw [if_neg e, if_neg (by omega), if_pos (by omega)]
        rw [t1, t2]
        rfl
      · have n3 : atP pl j ≠ atP pl i := fun z => n1 (atP_inj hn hj hi z)
        have n4 : atP pl j ≠ atP pl q := fun z => n2 (atP_inj hn hj hq z)
        show tieL t (atP pl i) (atP pl j) = 0
        unfold tieL
        rw [if_neg e, if_neg (fun z => n3 z.symm), if_neg (by omega)]
    rcases h1 with h1 | h1
    · exact main t.1 t.2 e (.inl ⟨rfl, rfl⟩) h1
    · exact main t.2 t.1 (fun z => e z.symm) (.inr ⟨rfl, rfl⟩) h1
  · exact sm_zero fun j _ => tieL_off (by omega)
theorem lap_sum {pl : List Nat} (hn : pl.Nodup) : ∀ {ts : List (Nat × Nat)}, (∀ t ∈ ts, t.1 ∈ pl ↔ t.2 ∈ pl) → ∀ {i : Nat}, i < pl.length → sm (fun j => lap ts (atP pl i) (atP pl j)) pl.length = 0
  | [], _, i, _ => sm_zero fun _ _ => rfl
  | t :: ts, h, i, hi => by
    show sm (fun j => tieL t (atP pl i) (atP pl j) + lap ts (atP pl i) (atP pl j)) pl.length = 0
    rw [sm_add, tie_sum hn (h t List.mem_cons_self) hi, lap_sum hn (fun s hs => h s (List.mem_cons_of_mem _ hs)) hi]
    rfl
/-- some of the places hang by no tie on any other -/
def Shut (pl : List Nat) (ts : List (Nat × Nat)) : Prop := ∃ T : Nat → Prop, (∃ x, T x) ∧ (∀ x, T x → x ∈ pl) ∧ ∀ t ∈ ts, T t.1 ↔ T t.2
def lapD (pl : List Nat) (ts : List (Nat × Nat)) : Int := det pl.length fun i j => lap ts (atP pl i) (atP pl j)
theorem lap_worth : ∀ (n : Nat) (ts : List (Nat × Nat)) (pl : List Nat), ts.length = n → pl.Nodup → 0 ≤ lapD pl ts ∧ (lapD pl ts = 0 ↔ Shut pl ts) := by
  intro n
  induction n with
  | zero =>
    intro ts pl hl hn
    have : ts = [] := List.length_eq_zero_iff.mp hl
    subst this
    cases pl with
    | nil => exact ⟨by show (0 : Int) ≤ 1; decide, fun h => absurd h (by show ¬ (1 : Int) = 0; decide), fun ⟨T, ⟨x, hx⟩, h, _⟩ => absurd (h x hx) List.not_mem_nil⟩
    | cons a r =>
      have z : lapD (a :: r) [] = 0 := det_row0 (Nat.succ_pos _) fun i hi => sm_zero fun _ _ => rfl
      exact ⟨by rw [z]; exact Int.le_refl 0, fun _ => ⟨(· ∈ a :: r), ⟨a, List.mem_cons_self⟩, fun _ h => h, fun t h => absurd h List.not_mem_nil⟩, fun _ => z⟩
  | succ n ih =>
    intro ts pl hl hn
    by_cases hcross : ∃ t ∈ ts, ¬(t.1 ∈ pl ↔ t.2 ∈ pl)
    · obtain ⟨t, ht, hc⟩ := hcross
      -- one end among the places, the other not
      obtain ⟨w, u, hw, hu, hwu⟩ : ∃ w u, w ∈ pl ∧ u ∉ pl ∧ ((w = t.1 ∧ u = t.2) ∨ (w = t.2 ∧ u = t.1)) := by
        by_cases h1 : t.1 ∈ pl
        · exact ⟨t.1, t.2, h1, fun z => hc ⟨fun _ => z, fun _ => h1⟩, .inl ⟨rfl, rfl⟩⟩
        · exact ⟨t.2, t.1, Classical.byContradiction fun z => hc ⟨fun q => absurd q h1, fun q => absurd q z⟩, h1, .inr ⟨rfl, rfl⟩⟩
      obtain ⟨r, hr, er⟩ := atP_of hw
      obtain ⟨m, hm⟩ : ∃ m, pl.length = m + 1 := ⟨pl.length - 1, by omega⟩
      have hne : t.1 ≠ t.2 := fun z => by
        rcases hwu with ⟨e1, e2⟩ | ⟨e1, e2⟩
        · exact hu (by rw [e2, ← z, ← e1]; exact hw)
        · exact hu (by rw [e2, z, ← e1]; exact hw)
      have hel : (ts.erase t).length = n := by rw [List.length_erase_of_mem ht, hl]; rfl
      have htie : ∀ i j, i < pl.length → j < pl.length → tieL t (atP pl i) (atP pl j) = if i = r ∧ j = r then 1 else 0 := fun i j hi hj => by
        have ui : atP pl i ≠ u := fun z => hu (by rw [← z]; exact atP_mem hi)
        have uj : atP pl j ≠ u := fun z => hu (by rw [← z]; exact atP_mem hj)
        by_cases hi2 : i = r
        · by_cases hj2 : j = r
          · subst hi2 hj2
            rw [if_pos ⟨rfl, rfl⟩]
            unfold tieL
            rw [if_neg hne, if_pos rfl, if_pos (by omega)]
          · rw [if_neg (fun z => hj2 z.2)]
            have n3 : atP pl i ≠ atP pl j := fun z => hj2 ((atP_inj hn hi hj z).symm.trans hi2)
            unfold tieL
            rw [if_neg hne, if_neg n3, if_neg (by omega)]
        · rw [if_neg (fun z => hi2 z.1)]
          have n3 : atP pl i ≠ w := fun z => hi2 (atP_inj hn hi hr (z.trans er.symm))
          exact tieL_off (by omega)
      have hrest : (pl.eraseIdx r).length = m := by rw [List.length_eraseIdx_of_lt hr, hm]; rfl
      have hat : ∀ i, i < m → atP (pl.eraseIdx r) i = atP pl (sk r i) := fun i hi => by
        unfold atP sk
        rw [List.getD_eq_getElem?_getD, List.getElem?_eraseIdx, List.getD_eq_getElem?_getD]
        split <;> rfl
      have hsplit : lapD pl ts = lapD pl (ts.erase t) + lapD (pl.eraseIdx r) (ts.erase t) := by
        have d1 := det_lin (t := 1) (n := pl.length) (r := r) (M := fun i j => lap ts (atP pl i) (atP pl j)) (A := fun i j => lap (ts.erase t) (atP pl i) (atP pl j)) (B := setR (fun i j => lap (ts.erase t) (atP pl i) (atP pl j)) r (unitR r)) hr
          (fun i j hi hj e => ⟨by rw [lap_erase ht, htie i j hi hj, if_neg (fun z => e z.1), Int.zero_add], setR_ne e j⟩)
          (fun j hj => by
            rw [lap_erase ht, htie r j hr hj, setR_at]
            unfold unitR
            by_cases e : j = r
            · rw [if_pos ⟨rfl, e⟩, if_pos e]
              omega
            · rw [if_neg (fun z => e z.2), if_neg e]
              omega)
        show det pl.length (fun i j => lap ts (atP pl i) (atP pl j)) = det pl.length (fun i j => lap (ts.erase t) (atP pl i) (atP pl j)) + det (pl.eraseIdx r).length _
        rw [d1, hrest, hm, cof_minor (by omega) (by omega), sgn_add, sgn_sq, Int.one_mul, Int.one_mul]
        congr 1
        refine det_congr fun i j hi hj => ?_
        rw [hat i hi, hat j hj]
      obtain ⟨p1, q1⟩ := ih (ts.erase t) pl hel hn
      obtain ⟨p2, q2⟩ := ih (ts.erase t) (pl.eraseIdx r) hel (hn.eraseIdx r)
      have hmem : ∀ x, x ∈ pl.eraseIdx r ↔ x ∈ pl ∧ x ≠ w := fun x => by
        constructor
        · intro h
          refine ⟨List.mem_of_mem_eraseIdx h, fun z => ?_⟩
          obtain ⟨i, hi, e⟩ := atP_of h
          rw [hrest] at hi
          rw [hat i hi] at e
          exact sk_ne r i (atP_inj hn (by rw [hm]; exact sk_lt hi) hr (by rw [e, z, er]))
        · rintro ⟨h, hxw⟩
          obtain ⟨i, hi, e⟩ := atP_of h
          have hir : i ≠ r := fun z => hxw (by rw [← e, z, er])
          by_cases hlt : i < r
          · have : atP (pl.eraseIdx r) i = x := by rw [hat i (by omega), show sk r i = i from if_pos hlt, e]
            rw [← this]
            exact atP_mem (by omega)
          · have : atP (pl.eraseIdx r) (i - 1) = x := by rw [hat (i - 1) (by omega), show sk r (i - 1) = i by unfold sk; rw [if_neg (by omega)]; omega, e]
            rw [← this]
            exact atP_mem (by omega)
      have s1 : Shut pl ts → Shut pl (ts.erase t) := fun ⟨T, a, b, c⟩ => ⟨T, a, b, fun s hs => c s (List.mem_of_mem_erase hs)⟩
      have s2 : Shut pl ts → Shut (pl.eraseIdx r) (ts.erase t) := fun ⟨T, a, b, c⟩ => by
        have hTu : ¬T u := fun z => hu (b u z)
        have hTw : ¬T w := fun z => hTu (by
          have := c t ht
          rcases hwu with ⟨rfl, rfl⟩ | ⟨rfl, rfl⟩
          · exact this.mp z
          · exact this.mpr z)
        exact ⟨T, a, fun x hx => (hmem x).mpr ⟨b x hx, fun z => hTw (by rw [← z]; exact hx)⟩, fun s hs => c s (List.mem_of_mem_erase hs)⟩
      have s3 : Shut (pl.eraseIdx r) (ts.erase t) → Shut pl ts := fun ⟨T, a, b, c⟩ => by
        have hTu : ¬T u := fun z => hu ((hmem u).mp (b u z)).1
        have hTw : ¬T w := fun z => ((hmem w).mp (b w z)).2 rfl
        refine ⟨T, a, fun x hx => ((hmem x).mp (b x hx)).1, fun s hs => ?_⟩
        by_cases e : s = t
        · subst e
          rcases hwu with ⟨rfl, rfl⟩ | ⟨rfl, rfl⟩
          · exact ⟨fun z => absurd z hTw, fun z => absurd z hTu⟩
          · exact ⟨fun z => absurd z hTu, fun z => absurd z hTw⟩
        · exact c s ((List.mem_erase_of_ne e).mpr hs)
      rw [hsplit]
      refine ⟨by omega, fun h => s3 (q2.mp (by omega)), fun h => ?_⟩
      rw [q1.mpr (s1 h), q2.mpr (s2 h)]
      rfl
    · have hclosed : ∀ t ∈ ts, t.1 ∈ pl ↔ t.2 ∈ pl := fun t ht => Classical.byContradiction fun z => hcross ⟨t, ht, z⟩
      cases pl with
      | nil => exact ⟨by show (0 : Int) ≤ 1; decide, fun h => absurd h (by show ¬ (1 : Int) = 0; decide), fun ⟨T, ⟨x, hx⟩, h, _⟩ => absurd (h x hx) List.not_mem_nil⟩
      | cons a r =>
        have z : lapD (a :: r) ts = 0 := det_row0 (Nat.succ_pos _) fun i hi => lap_sum hn hclosed hi
        exact ⟨by rw [z]; exact Int.le_refl 0, fun _ => ⟨(· ∈ a :: r), ⟨a, List.mem_cons_self⟩, fun _ h => h, hclosed⟩, fun _ => z⟩
end Fw
namespace Fw
/-- how many trees of ties: the table's worth without the last place -/
def trees (n : Nat) (ts : List (Nat × Nat)) : Int := det (n - 1) (lap ts)
theorem atP_range {n i : Nat} (h : i < n) : atP (List.range n) i = i := by
  rw [atP_in (by rw [List.length_range]; exact h), List.getElem_range]
theorem trees_lapD (n : Nat) (ts : List (Nat × Nat)) : trees n ts = lapD (List.range (n - 1)) ts := by
  unfold trees lapD
  rw [List.length_range]
  refine det_congr fun i j hi hj => ?_
  rw [atP_range hi, atP_range hj]
theorem trees_lo (n : Nat) (ts : List (Nat × Nat)) : 0 ≤ trees n ts := by
  rw [trees_lapD]
  exact (lap_worth _ ts _ rfl List.nodup_range).1
theorem lap_rows0 {n : Nat} {ts : List (Nat × Nat)} (h : ∀ t ∈ ts, t.1 < n ∧ t.2 < n) {i : Nat} (hi : i < n) : sm (fun j => lap ts i j) n = 0 := by
  have := lap_sum (pl := List.range n) List.nodup_range (ts := ts) (fun t ht => by
    have := h t ht
    rw [List.mem_range, List.mem_range]
    omega) (i := i) (by rw [List.length_range]; exact hi)
  rw [List.length_range] at this
  rw [← this]
  refine sm_congr fun j hj => ?_
  rw [atP_range hi, atP_range hj]
theorem lap_cols0 {n : Nat} {ts : List (Nat × Nat)} (h : ∀ t ∈ ts, t.1 < n ∧ t.2 < n) {j : Nat} (hj : j < n) : sm (fun i => lap ts i j) n = 0 := by
  rw [← lap_rows0 h hj]
  exact sm_congr fun i _ => lap_sym ts i j
/-- any place may be left out -/
theorem trees_any {n p : Nat} {ts : List (Nat × Nat)} (h : ∀ t ∈ ts, t.1 < n ∧ t.2 < n) (hp : p < n) : det (n - 1) (fun i j => lap ts (sk p i) (sk p j)) = trees n ts := by
  obtain ⟨m, rfl⟩ : ∃ m, n = m + 1 := ⟨n - 1, by omega⟩
  rw [show m + 1 - 1 = m from rfl, minors_same hp (Nat.lt_succ_self m) (fun j hj => lap_cols0 h hj) (fun i hi => lap_rows0 h hi)]
  unfold trees
  refine det_congr fun i j hi hj => ?_
  rw [show sk m i = i from if_pos hi, show sk m j = j from if_pos hj]
open Kx in
theorem trees_zero {n : Nat} {ts : List (Nat × Nat)} (h : TiesN n ts) (hn : 0 < n) : trees n ts = 0 ↔ (partOf n ts 0).length < n := by
  have L := leasts_ok h
  rw [trees_lapD, (lap_worth _ ts _ rfl List.nodup_range).2]
  constructor
  · rintro ⟨T, ⟨x, hx⟩, hT, hc⟩
    have hxn := List.mem_range.mp (hT x hx)
    refine Nat.lt_of_le_of_ne ?_ fun e => ?_
    · have := List.length_filter_le (fun p => decide (leasts ts p = leasts ts 0)) (List.range n)
      rw [List.length_range] at this
      exact this
    · have hall : ∀ p ∈ List.range n, decide (leasts ts p = leasts ts 0) = true := List.length_filter_eq_length_iff.mp (e.trans List.length_range.symm)
      have a := of_decide_eq_true (hall x (List.mem_range.mpr (by omega)))
      have b := of_decide_eq_true (hall (n - 1) (List.mem_range.mpr (by omega)))
      have c := (L.same x (n - 1) (by omega) (by omega)).mp (a.trans b.symm)
      have d := conn_closed (S := T) (fun t ht => ⟨(hc t ht).mp, (hc t ht).mpr⟩) c hx
      have := List.mem_range.mp (hT _ d)
      omega
  · intro hlt
    refine ⟨fun x => x < n ∧ ¬Conn ts x (n - 1), ?_, fun x hx => List.mem_range.mpr ?_, fun t ht => ?_⟩
    · refine Classical.byContradiction fun hno => ?_
      have hall : ∀ x, x < n → Conn ts x (n - 1) := fun x hx => Classical.byContradiction fun z => hno ⟨x, hx, z⟩
      have e : (partOf n ts 0).length = n := by
        have : partOf n ts 0 = List.range n := List.filter_eq_self.mpr fun p hp => decide_eq_true ((L.same p 0 (List.mem_range.mp hp) hn).mpr ((hall p (List.mem_range.mp hp)).trans (hall 0 hn).symm))
        rw [this, List.length_range]
      omega
    · have : x ≠ n - 1 := fun z => hx.2 (by rw [z]; exact .refl _)
      have := hx.1
      omega
    · have := h t ht
      have e1 : Conn ts t.1 t.2 := Conn.edge (.inl ht)
      exact ⟨fun z => ⟨this.2, fun q => z.2 (e1.trans q)⟩, fun z => ⟨this.1, fun q => z.2 (e1.symm.trans q)⟩⟩
/-! the order of the ties, and which way they lead, is all the same -/
theorem lap_app : ∀ (a b : List (Nat × Nat)) (i j : Nat), lap (a ++ b) i j = lap a i j + lap b i j
  | [], b, i, j => (Int.zero_add _).symm
  | t :: a, b, i, j => by
    show tieL t i j + lap (a ++ b) i j = tieL t i j + lap a i j + lap b i j
    rw [lap_app a b, Int.add_assoc]
theorem trees_congr {n : Nat} {ts us : List (Nat × Nat)} (h : ∀ i j, lap ts i j = lap us i j) : trees n ts = trees n us := det_congr fun i j _ _ => h i j
/-- with one tie more it is no less -/
theorem lapD_drop {pl : List Nat} {ts : List (Nat × Nat)} {t : Nat × Nat} {r u : Nat} (hn : pl.Nodup) (hr : r < pl.length) (hu : u ∉ pl) (hwu : (atP pl r = t.1 ∧ u = t.2) ∨ (atP pl r = t.2 ∧ u = t.1)) :
    lapD pl (t :: ts) = lapD pl ts + lapD (pl.eraseIdx r) ts := by
  obtain ⟨m, hm⟩ : ∃ m, pl.length = m + 1 := ⟨pl.length - 1, by omega⟩
  have hw := atP_mem hr
  have hne : t.1 ≠ t.2 := fun z => by
    rcases hwu with ⟨e1, e2⟩ | ⟨e1, e2⟩
    · exact hu (by rw [e2, ← z, ← e1]; exact hw)
    · exact hu (by rw [e2, z, ← e1]; exact hw)
  have htie : ∀ i j, i < pl.length → j < pl.length → tieL t (atP pl i) (atP pl j) = if i = r ∧ j = r then 1 else 0 := fun i j hi hj => by
    have ui : atP pl i ≠ u := fun z => hu (by rw [← z]; exact atP_mem hi)
    have uj : atP pl j ≠ u := fun z => hu (by rw [← z]; exact atP_mem hj)
    by_cases hi2 : i = r
    · by_cases hj2 : j = r
      · subst hi2 hj2
        rw [if_pos ⟨rfl, rfl⟩]
        unfold tieL
        rw [if_neg hne, if_pos rfl, if_pos (by omega)]
      · rw [if_neg (fun z => hj2 z.2)]
        have n3 : atP pl i ≠ atP pl j := fun z => hj2 ((atP_inj hn hi hj z).symm.trans hi2)
        subst hi2
        unfold tieL
        rw [if_neg hne, if_neg n3, if_neg (by omega)]
    · rw [if_neg (fun z => hi2 z.1)]
      have n3 : atP pl i ≠ atP pl r := fun z => hi2 (atP_inj hn hi hr z)
      exact tieL_off (by omega)
  have hrest : (pl.eraseIdx r).length = m := by rw [List.length_eraseIdx_of_lt hr, hm]; rfl
  have hat : ∀ i, i < m → atP (pl.eraseIdx r) i = atP pl (sk r i) := fun i hi => by
    unfold atP sk
    rw [List.getD_eq_getElem?_getD, List.getElem?_eraseIdx, List.getD_eq_getElem?_getD]
    split <;> rfl
  have d1 := det_lin (t := 1) (n := pl.length) (r := r) (M := fun i j => lap (t :: ts) (atP pl i) (atP pl j)) (A := fun i j => lap ts (atP pl i) (atP pl j)) (B := setR (fun i j => lap ts (atP pl i) (atP pl j)) r (unitR r)) hr
    (fun i j hi hj e => ⟨by show tieL t _ _ + lap ts _ _ = _; rw [htie i j hi hj, if_neg (fun z => e z.1), Int.zero_add], setR_ne e j⟩)
    (fun j hj => by
      show tieL t _ _ + lap ts _ _ = _
      rw [htie r j hr hj, setR_at]
      unfold unitR
      by_cases e : j = r
      · rw [if_pos ⟨rfl, e⟩, if_pos e]
        omega
      · rw [if_neg (fun z => e z.2), if_neg e]
        omega)
  show det pl.length (fun i j => lap (t :: ts) (atP pl i) (atP pl j)) = det pl.length (fun i j => lap ts (atP pl i) (atP pl j)) + det (pl.eraseIdx r).length _
  rw [d1, hrest, hm, cof_minor (by omega) (by omega), sgn_add, sgn_sq, Int.one_mul, Int.one_mul]
  congr 1
  refine det_congr fun i j hi hj => ?_
  rw [hat i hi, hat j hj]
end Fw
namespace Fw
open PySem PySem.Spec PyProof.Rows L2 Evl
def rowI (r : List Int) : PyData := .list (r.map .int)
theorem rowsD_map (rows : List (List Int)) : rowsD rows = rows.map rowI := rfl
theorem lay_rows (rows : List (List Int)) : Lay 2 (.list (rowsD rows)) := lay_intss rows
def RowOk (n : Nat) (B : Int) (r : List Int) : Prop := r.length = n ∧ ∀ e ∈ r, -B < e ∧ e < B
def AllOk (n : Nat) (B : Int) (rows : List (List Int)) : Prop := ∀ r ∈ rows, RowOk n B r
theorem rowsD_len (rows : List (List Int)) : (rowsD rows).length = rows.length := List.length_map _
theorem AllOk.mono {n : Nat} {B C : Int} {rows : List (List Int)} (h : AllOk n B rows) (l : B ≤ C) : AllOk n C rows := fun r hr => ⟨(h r hr).1, fun e he => by have := (h r hr).2 e he; omega⟩
theorem AllOk.app {n : Nat} {B : Int} {rows : List (List Int)} {r : List Int} (h : AllOk n B rows) (hr : RowOk n B r) : AllOk n B (rows ++ [r]) := fun x hx => (List.mem_append.mp hx).elim (h x) fun q => by
  rw [List.mem_singleton.mp q]
  exact hr
theorem AllOk.set {n : Nat} {B : Int} {rows : List (List Int)} {r : List Int} {j : Nat} (h : AllOk n B rows) (hr : RowOk n B r) : AllOk n B (rows.set j r) := fun x hx => by
  rcases List.mem_or_eq_of_mem_set hx with q | q
  · exact h x q
  · rw [q]
    exact hr
theorem rowsD_app (rows : List (List Int)) (r : List Int) : rowsD (rows ++ [r]) = rowsD rows ++ [rowI r] := by
  unfold rowsD
  rw [List.map_append]
  rfl
theorem rowsD_set (rows : List (List Int)) (r : List Int) (j : Nat) : rowsD (rows.set j r) = (rowsD rows).set j (rowI r) := List.map_set
theorem g_rowAt {rows : List (List Int)} {k : Nat} (hk : k < rows.length) : gIx (.list (rowsD rows)) (.int (k : Int)) = some (.list (rows[k].map .int), false) := by
  rw [rowsD_map, g_ixm (enc := rowI) (by omega) (by rw [Int.toNat_natCast]; exact hk)]
  rfl
theorem g_cellAt {r : List Int} {k : Nat} (hk : k < r.length) : gIx (.list (r.map .int)) (.int (k : Int)) = some (.int r[k], false) := by
  rw [g_ixm (by omega) (by rw [Int.toNat_natCast]; exact hk)]
  rfl
theorem ixN_nat {n k : Nat} (h : k < n) : ixN n (k : Int) = some k := by
  unfold ixN
  rw [if_pos (by omega), if_pos (by omega), Int.toNat_natCast]
theorem cellR_in {rows : List (List Int)} {i j : Nat} (hi : i < rows.length) (hj : j < rows[i].length) : cellR rows i j = rows[i][j] := by
  unfold cellR
  rw [List.getD_eq_getElem?_getD (l := rows), List.getElem?_eq_getElem hi, Option.getD_some, List.getD_eq_getElem?_getD, List.getElem?_eq_getElem hj, Option.getD_some]
theorem cellR_row {rows : List (List Int)} {i : Nat} (hi : i < rows.length) (j : Nat) : cellR rows i j = rows[i].getD j 0 := by
  unfold cellR
  rw [List.getD_eq_getElem?_getD (l := rows), List.getElem?_eq_getElem hi, Option.getD_some]
theorem cellR_app {rows : List (List Int)} {r : List Int} {i : Nat} (hi : i < rows.length) (j : Nat) : cellR (rows ++ [r]) i j = cellR rows i j := by
  unfold cellR
  rw [List.getD_eq_getElem?_getD (l := rows ++ [r]), List.getElem?_append_left hi, List.getD_eq_getElem?_getD (l := rows)]
theorem cellR_last {rows : List (List Int)} {r : List Int} (j : Nat) : cellR (rows ++ [r]) rows.length j = r.getD j 0 := by
  unfold cellR
  rw [List.getD_eq_getElem?_getD (l := rows ++ [r]), List.getElem?_append_right (Nat.le_refl _), Nat.sub_self]
  rfl
theorem cellR_set {rows : List (List Int)} {r : List Int} {p : Nat} (hp : p < rows.length) (i j : Nat) : cellR (rows.set p r) i j = if i = p then r.getD j 0 else cellR rows i j := by
  unfold cellR
  by_cases e : i = p
  · subst e
    rw [if_pos rfl, List.getD_eq_getElem?_getD (l := rows.set i r), List.getElem?_set_self hp]
    rfl
  · rw [if_neg e, List.getD_eq_getElem?_getD (l := rows.set p r), List.getElem?_set_ne (fun z => e z.symm), List.getD_eq_getElem?_getD (l := rows)]
theorem AllOk.cell {n : Nat} {B : Int} {rows : List (List Int)} (h : AllOk n B rows) {i j : Nat} (hi : i < rows.length) (hj : j < n) : -B < cellR rows i j ∧ cellR rows i j < B := by
  have hr := h _ (List.getElem_mem hi)
  have hj' : j < rows[i].length := by rw [hr.1]; exact hj
  rw [cellR_in hi hj']
  exact hr.2 _ (List.getElem_mem hj')
theorem g_cellD {r : List Int} {k : Nat} (hk : k < r.length) : gIx (.list (r.map .int)) (.int (k : Int)) = some (.int (r.getD k 0), false) := by
  rw [g_cellAt hk, List.getD_eq_getElem?_getD, List.getElem?_eq_getElem hk]
  rfl
end Fw
namespace Fw
open PySem PySem.Spec PyProof.Rows L2 Evl
/-! o[i] op= e on a list -/
def rGetN (K : PySem.W.Frag) : V → V → Hp → VK → Prop := fun x y H Q => ∃ (p : Addr) (xs : List V) (k : Nat) (v : V), x = .ref p ∧ y = .int (k : Int) ∧ SqL K H p xs ∧ xs[k]? = some v ∧ Q v H
theorem get_listN {X : Cx} : PGet X (rGetN X.K) := by
  intro pins s σ H x y v u Q I rx ry h
  obtain ⟨p, xs, k, z, rfl, rfl, hq, he, q⟩ := h
  cases rx
  obtain ⟨t, rfl⟩ := ry
  obtain ⟨its, r, pl, hz⟩ := I.list hq
  obtain ⟨w, ew, rw'⟩ := r.get he
  have hl := r.length
  have hn := line63
  have hk := (List.getElem?_eq_some_iff.mp he).1
  refine wpAny_getItem_list (x := w) pl.isList (by omega) (by omega) (by simpa using ew) ⟨z, H, I, rw', q⟩
/-! a list of lists of numbers, each its own -/
def rowV (n : Nat) (f : Nat → Int) : List V := (List.range n).map fun j => V.int (f j)
structure Nest (H : Hp) (a : Addr) (bs : List Addr) (n : Nat) (M : Mx) : Prop where
  top : H a = some (.lst (bs.map V.ref))
  len : bs.length = n
  nd : bs.Nodup
  row : ∀ (i : Nat) (b : Addr), bs[i]? = some b → H b = some (.lst (rowV n (M i)))
theorem rowV_len (n : Nat) (f : Nat → Int) : (rowV n f).length = n := by
  unfold rowV
  rw [List.length_map, List.length_range]
theorem rowV_at {n j : Nat} (f : Nat → Int) (h : j < n) : (rowV n f)[j]? = some (.int (f j)) := by
  unfold rowV
  rw [List.getElem?_map, List.getElem?_range h]
  rfl
theorem rowV_set {n q : Nat} (f : Nat → Int) (v : Int) : (rowV n f).set q (.int v) = rowV n fun j => if j = q then v else f j := by
  refine List.ext_getElem? fun j => ?_
  rw [List.getElem?_set]
  unfold rowV
  rw [List.getElem?_map, List.getElem?_map, List.length_map, List.length_range]
  by_cases hj : j < n
  · rw [List.getElem?_range hj]
    by_cases e : q = j
    · subst e
      rw [if_pos rfl, if_pos hj]
      show _ = some (V.int (if q = q then v else f q))
      rw [if_pos rfl]
    · rw [if_neg e]
      show some (V.int (f j)) = some (V.int (if j = q then v else f j))
      rw [if_neg fun z => e z.symm]
  · rw [List.getElem?_eq_none (by rw [List.length_range]; omega)]
    by_cases e : q = j
    · rw [if_pos e, if_neg (by omega)]
      rfl
    · rw [if_neg e]
      rfl
theorem Nest.apart {H : Hp} {a b : Addr} {bs : List Addr} {n : Nat} {M : Mx} (h : Nest H a bs n M) {i : Nat} (hb : bs[i]? = some b) : b ≠ a := fun e => by
  subst e
  have h1 := h.row i b hb
  rw [h.top] at h1
  have hi := (List.getElem?_eq_some_iff.mp hb).1
  have h2 : bs.map V.ref = rowV n (M i) := HO.lst.inj (Option.some.inj h1)
  have h3 : (bs.map V.ref)[0]? = (rowV n (M i))[0]? := by rw [h2]
  rw [List.getElem?_map, List.getElem?_eq_getElem (show 0 < bs.length by omega), rowV_at _ (by rw [← h.len]; omega)] at h3
  cases h3
/-- one number of it is put anew -/
theorem Nest.put {H : Hp} {a b : Addr} {bs : List Addr} {n p q : Nat} {M : Mx} {v : Int} (h : Nest H a bs n M) (hb : bs[p]? = some b) : Nest (upd H b (.lst ((rowV n (M p)).set q (.int v)))) a bs n (fun i j => if i = p ∧ j = q then v else M i j) := by
  refine ⟨by rw [upd_ne (fun e => h.apart hb e.symm)]; exact h.top, h.len, h.nd, fun i c hc => ?_⟩
  by_cases e : i = p
  · subst e
    rw [hb] at hc
    cases hc
    rw [upd_same, rowV_set]
    congr 2
    unfold rowV
    refine List.map_congr_left fun j _ => ?_
    show V.int (if j = q then v else M i j) = V.int (if i = i ∧ j = q then v else M i j)
    by_cases e2 : j = q
    · rw [if_pos e2, if_pos ⟨rfl, e2⟩]
    · rw [if_neg e2, if_neg (fun z => e2 z.2)]
  · have hne : c ≠ b := fun z => by
      subst z
      have h1 := (List.getElem?_eq_some_iff.mp hc)
      have h2 := (List.getElem?_eq_some_iff.mp hb)
      exact e ((List.getElem_inj h.nd).mp (h1.2.trans h2.2.symm))
    rw [upd_ne hne, h.row i c hc]
    congr 3
    funext j
    show M i j = if i = p ∧ j = q then v else M i j
    rw [if_neg (fun z => e z.1)]
theorem Nest.ex {H H' : Hp} {a : Addr} {bs : List Addr} {n : Nat} {M : Mx} (h : Nest H a bs n M) (e : Ex H H') : Nest H' a bs n M := ⟨e _ _ h.top, h.len, h.nd, fun i b hb => e _ _ (h.row i b hb)⟩
theorem Nest.congr {H : Hp} {a : Addr} {bs : List Addr} {n : Nat} {M N : Mx} (h : Nest H a bs n M) (e : ∀ i j, i < n → j < n → M i j = N i j) : Nest H a bs n N := ⟨h.top, h.len, h.nd, fun i b hb => by
  rw [h.row i b hb]
  congr 2
  unfold rowV
  refine List.map_congr_left fun j hj => ?_
  rw [e i j (by rw [← h.len]; exact (List.getElem?_eq_some_iff.mp hb).1) (List.mem_range.mp hj)]⟩
def tieP (t : Nat × Nat) : PyData := .tuple [.int (t.1 : Int), .int (t.2 : Int)]
def tiesOf : List PyData → Option (List (Nat × Nat))
  | [] => some []
  | .tuple [.int a, .int b] :: r => if 0 ≤ a ∧ 0 ≤ b then (tiesOf r).map ((a.toNat, b.toNat) :: ·) else none
  | _ :: _ => none
theorem tiesOf_P (ts : List (Nat × Nat)) : tiesOf (ts.map tieP) = some ts := by
  induction ts with
  | nil => rfl
  | cons t r ih =>
    show (if 0 ≤ (t.1 : Int) ∧ 0 ≤ (t.2 : Int) then (tiesOf (r.map tieP)).map (((t.1 : Int).toNat, (t.2 : Int).toNat) :: ·) else none) = _
    rw [if_pos (by omega), ih]
    rfl
theorem tiesOf_eq : ∀ {l : List PyData} {ts : List (Nat × Nat)}, tiesOf l = some ts → l = ts.map tieP := by
  intro l
  induction l with
  | nil =>
    intro ts h
    cases h
    rfl
  | cons d r ih =>
    intro ts h
    unfold tiesOf at h
    split at h
    · rename_i heq
      cases heq
    · rename_i a b r' heq
      cases heq
      split at h
      · rename_i hab
        cases hr : tiesOf r with
        | none => rw [hr] at h; cases h
        | some us =>
          rw [hr] at h
          cases h
          rw [List.map_cons, ← ih hr]
          show PyData.tuple [.int a, .int b] :: r = PyData.tuple [.int ((a.toNat : Nat) : Int), .int ((b.toNat : Nat) : Int)] :: r
          rw [Int.toNat_of_nonneg hab.1, Int.toNat_of_nonneg hab.2]
      · cases h
    · cases h
def tabR (n : Nat) (ts : List (Nat × Nat)) : List (List Int) := (List.range n).map fun i => (List.range n).map fun j => lap ts i j
def netB (n : Int) (ts : List (Nat × Nat)) : Bool := decide (1 ≤ n) && decide (n ≤ 7) && decide (ts.length ≤ 16) && ts.all fun t => decide (t.1 < n.toNat) && decide (t.2 < n.toNat)
def g_table_of : GFn
  | [.int n, .list l] => (tiesOf l).bind fun ts => if netB n ts then some (.list (rowsD (tabR n.toNat ts)), true) else none
  | _ => none
theorem netB_iff {n : Nat} {ts : List (Nat × Nat)} : netB (n : Int) ts = true ↔ 1 ≤ n ∧ n ≤ 7 ∧ ts.length ≤ 16 ∧ ∀ t ∈ ts, t.1 < n ∧ t.2 < n := by
  unfold netB
  simp only [Bool.and_eq_true, decide_eq_true_eq, List.all_eq_true, Int.toNat_natCast]
  constructor
  · rintro ⟨⟨⟨a, b⟩, c⟩, d⟩
    exact ⟨by omega, by omega, c, d⟩
  · rintro ⟨a, b, c, d⟩
    exact ⟨⟨⟨by omega, by omega⟩, c⟩, d⟩
/-- the numbers of a list of own lists, as data -/
theorem Nest.data {H : Hp} {a : Addr} {bs : List Addr} {n : Nat} {M : Mx} (h : Nest H a bs n M) {R : Hp} (hR : ∀ (i : Nat) (b : Addr), bs[i]? = some b → R b = H b) : DqAll R (bs.map V.ref) (rowsD ((List.range n).map fun i => (List.range n).map fun j => M i j)) := by
  have main : ∀ (k : Nat) (cs : List Addr), cs = bs.drop k → DqAll R (cs.map V.ref) (rowsD (((List.range n).drop k).map fun i => (List.range n).map fun j => M i j)) := by
    intro k cs
    induction cs generalizing k with
    | nil =>
      intro e
      have hk : bs.length ≤ k := by
        have := congrArg List.length e
        rw [List.length_drop, List.length_nil] at this
        omega
      rw [List.drop_eq_nil_of_le (by rw [List.length_range, ← h.len]; exact hk)]
      exact .nil
    | cons c r ih =>
      intro e
      have hk : k < bs.length := by
        have := congrArg List.length e
        rw [List.length_drop, List.length_cons] at this
        omega
      rw [List.drop_eq_getElem_cons hk] at e
      injection e with e1 e2
      rw [List.drop_eq_getElem_cons (show k < (List.range n).length by rw [List.length_range, ← h.len]; exact hk), List.getElem_range]
      refine .cons ?_ (ih (k + 1) e2)
      have hb : bs[k]? = some c := by rw [e1]; exact List.getElem?_eq_getElem hk
      have hrow := h.row k c hb
      rw [← hR k c hb] at hrow
      refine .lst hrow ?_
      have e3 : rowV n (M k) = ((List.range n).map fun j => M k j).map V.int := by
        unfold rowV
        rw [List.map_map]
        rfl
      rw [e3]
      exact dpa_of_ints _
  exact main 0 bs rfl
/-- table[x][y] op= 1 -/
theorem aug_nest {K : PySem.W.Frag} {E : Ends} {σ : L2.St} {H : Hp} {D : Addr} {bs : List Addr} {n p q s x y : Nat} {M : Mx} {op : Int → Int → Int} (h : Nest H D bs n M) (s2 : σ[s]? = some (some (.ref D))) (sx : σ[x]? = some (some (.int (p : Int)))) (sy : σ[y]? = some (some (.int (q : Int)))) (hp : p < n) (hq : q < n)
    {H1 : Hp} (e : Ex H1 H) (hf : ∀ b ∈ bs, H1 b = none) (k : ∀ H', Ex H1 H' → Nest H' D bs n (fun i j => if i = p ∧ j = q then op (M p q) 1 else M i j) → E.nx σ H') :
    tAugS (tOp (rIxL K) (tVar s) (tVar x)) (tVar y) (tC (.int 1)) (rGetN K) (ipI op) rSetL E σ H := by
  have hpl : p < bs.length := by rw [h.len]; exact hp
  have hb := List.getElem?_eq_getElem hpl
  have hrow := h.row p _ hb
  refine ⟨.ref D, s2, .int (p : Int), sx, D, bs.map V.ref, (p : Int), .ref bs[p], rfl, rfl, SqL.of h.top, at_of rfl (by rw [List.getElem?_map, hb]; rfl), .int (q : Int), sy, bs[p], rowV n (M p), q, .int (M p q), rfl, rfl, SqL.of hrow, rowV_at _ hq, _, _, rfl, rfl, bs[p], rowV n (M p), (q : Int), q, rfl, rfl, hrow, by rw [rowV_len]; exact Fw.ixN_nat hq, ?_⟩
  exact k _ (Ex.mut e (hf _ (List.mem_of_getElem? hb))) (h.put hb)
/-- rows[x][y] = rows[x][y] op 1 -/
theorem asg_nest {K : PySem.W.Frag} {E : Ends} {σ : L2.St} {H : Hp} {D : Addr} {bs : List Addr} {n p q s x y : Nat} {M : Mx} {op : Int → Int → Int} (h : Nest H D bs n M) (s2 : σ[s]? = some (some (.ref D))) (sx : σ[x]? = some (some (.int (p : Int)))) (sy : σ[y]? = some (some (.int (q : Int)))) (hp : p < n) (hq : q < n)
    {H1 : Hp} (e : Ex H1 H) (hf : ∀ b ∈ bs, H1 b = none) (k : ∀ H', Ex H1 H' → Nest H' D bs n (fun i j => if i = p ∧ j = q then op (M p q) 1 else M i j) → E.nx σ H') :
    tAsg (tOp (rI0 fun i j => .int (op i j)) (tOp (rIxL K) (tOp (rIxL K) (tVar s) (tVar x)) (tVar y)) (tC (.int 1))) (L2.gSub (tOp (rIxL K) (tVar s) (tVar x)) (tVar y) rSetL) E σ H := by
  have hpl : p < bs.length := by rw [h.len]; exact hp
  have hb := List.getElem?_eq_getElem hpl
  have hrow := h.row p _ hb
  have hat : atI (bs.map V.ref) (p : Int) = some (.ref bs[p]) := at_of rfl (by rw [List.getElem?_map, hb]; rfl)
  refine ⟨.ref D, s2, .int (p : Int), sx, D, bs.map V.ref, (p : Int), .ref bs[p], rfl, rfl, SqL.of h.top, hat, .int (q : Int), sy, bs[p], rowV n (M p), (q : Int), .int (M p q), rfl, rfl, SqL.of hrow, at_of rfl (rowV_at _ hq), _, _, rfl, rfl, ?_⟩
  refine ⟨.ref D, s2, .int (p : Int), sx, D, bs.map V.ref, (p : Int), .ref bs[p], rfl, rfl, SqL.of h.top, hat, .int (q : Int), sy, bs[p], rowV n (M p), (q : Int), q, rfl, rfl, hrow, by rw [rowV_len]; exact Fw.ixN_nat hq, ?_⟩
  exact k _ (Ex.mut e (hf _ (List.mem_of_getElem? hb))) (h.put hb)
end Fw
namespace Kx
open PySem PySem.Spec PyProof.Rows L2 Evl Fw
def cod : Str → Option Int := fun c => if c = "BadNet" then some 0 else none
def clsN : List Str := ["BadTie", "SelfTie", "BadHanging", "BadNumber", "TooMany", "BadNet", "ValueError"]
def f_is_whole : SF := (sRet (eAnd (eTy false "int" (wVar 0)) (eChain gLe gLe (wVar 1) (wVar 0) (wVar 2))))
def g_is_whole : GFn := fun ds => if ds.length = 3 then outR (f_is_whole (Fw.envOf 3 [true, true, true] ds)) else none
def f__is_tie : SF := (seqS (sIf (cOr (tstE (eTy true "tuple" (wVar 1))) (tstE (eBin gNe (wOf (eCallB gLen (bCons (wVar 1) aNil))) (wOf (eC (.int 2)))))) (sRet (eC (.bool false))) Out.nx)
    (sRet (eAnd (eCall g_is_whole (bCons (wOf (eBin gIx (wVar 1) (wOf (eC (.int 0))))) (bCons (wOf (eC (.int 0))) (bCons (wOf (eBin gSub (wVar 0) (wOf (eC (.int 1))))) aNil)))) (eCall g_is_whole (bCons (wOf (eBin gIx (wVar 1) (wOf (eC (.int 1))))) (bCons (wOf (eC (.int 0))) (bCons (wOf (eBin gSub (wVar 0) (wOf (eC (.int 1))))) aNil)))))))
def g__is_tie : GFn := fun ds => if ds.length = 2 then outR (f__is_tie (Fw.envOf 2 [true, true] ds)) else none
def f_need_net_b1 : SF := (sIf (cNot (tstE (eCall g__is_tie (bCons (wVar 0) (bCons (wVar 2) aNil))))) (fun _ => .bad) Out.nx)
def fX_need_net : SX := (xSeq (xIf (cNot (tstE (eCall g_is_whole (bCons (wVar 0) (bCons (wOf (eC (.int 1))) (bCons (wOf (eC (.int 7))) aNil)))))) (xRaise "BadNet") (xP .nx))
    (xSeq (xIf (cOr (tstE (eTy true "list" (wVar 1))) (tstE (eBin gGt (wOf (eCallB gLen (bCons (wVar 1) aNil))) (wOf (eC (.int 16)))))) (xRaise "BadNet") (xP .nx))
    (xFor (iNm 1) (gNm 2) (xIf (cNot (tstE (eCall g__is_tie (bCons (wVar 0) (bCons (wVar 2) aNil))))) (xRaise "BadNet") (xP .nx)))))
def gX_need_net : GXn := fun ds => if ds.length = 2 then outX (fX_need_net (Fw.envOf 3 [true, true] ds)) else none
def f_need_net : SF := (seqS (sIf (cNot (tstE (eCall g_is_whole (bCons (wVar 0) (bCons (wOf (eC (.int 1))) (bCons (wOf (eC (.int 7))) aNil)))))) (fun _ => .bad) Out.nx)
    (seqS (sIf (cOr (tstE (eTy true "list" (wVar 1))) (tstE (eBin gGt (wOf (eCallB gLen (bCons (wVar 1) aNil))) (wOf (eC (.int 16)))))) (fun _ => .bad) Out.nx)
    (sFor (iNm 1) (gNm 2) f_need_net_b1)))
def g_need_net : GFn := fun ds => if ds.length = 2 then outR (f_need_net (Fw.envOf 3 [true, true] ds)) else none
def fX_parts_of : SX := (xSeq (xDrop (eCallX gX_need_net (bCons (wVar 0) (bCons (wVar 1) aNil)))) (xP fun _ => .bad))
def gX_parts_of : GXn := fun ds => if ds.length = 2 then outX (fX_parts_of (Fw.envOf 11 [true, true] ds)) else none
def fX_hangs : SX := (xR (eCallX gX_parts_of (bCons (wVar 0) (bCons (wVar 1) aNil))))
def gX_hangs : GXn := fun ds => if ds.length = 2 then outX (fX_hangs (Fw.envOf 2 [true, true] ds)) else none
def fX__need_tie : SX := (xSeq (xDrop (eCallX gX_need_net (bCons (wVar 0) (bCons (wVar 1) aNil)))) (xP fun _ => .bad))
def gX__need_tie : GXn := fun ds => if ds.length = 3 then outX (fX__need_tie (Fw.envOf 3 [true, true, true] ds)) else none
def fX_net_without : SX := (xSeq (xDrop (eCallX gX__need_tie (bCons (wVar 0) (bCons (wVar 1) (bCons (wVar 2) aNil))))) (xP fun _ => .bad))
def gX_net_without : GXn := fun ds => if ds.length = 3 then outX (fX_net_without (Fw.envOf 3 [true, true, true] ds)) else none
def fX_net_together : SX := (xSeq (xSet 3 (eCallX gX_net_without (bCons (wVar 0) (bCons (wVar 1) (bCons (wVar 2) aNil))))) (xP fun _ => .bad))
def gX_net_together : GXn := fun ds => if ds.length = 3 then outX (fX_net_together (Fw.envOf 8 [true, true, true] ds)) else none
def fX_table_of : SX := (xSeq (xDrop (eCallX gX_need_net (bCons (wVar 0) (bCons (wVar 1) aNil)))) (xP fun _ => .bad))
def gX_table_of : GXn := fun ds => if ds.length = 2 then outX (fX_table_of (Fw.envOf 6 [true, true] ds)) else none
def fX_tally : SX := (xSeq (xSet 2 (eCallX gX_table_of (bCons (wVar 0) (bCons (wVar 1) aNil)))) (xP fun _ => .bad))
def gX_tally : GXn := fun ds => if ds.length = 2 then outX (fX_tally (Fw.envOf 4 [true, true] ds)) else none
def fX_is_hanging : SX := (xSeq (xDrop (eCallX gX_need_net (bCons (wVar 0) (bCons (wVar 1) aNil)))) (xP fun _ => .bad))
def gX_is_hanging : GXn := fun ds => if ds.length = 3 then outX (fX_is_hanging (Fw.envOf 5 [true, true, true] ds)) else none
def fX_all_hangings : SX := (xSeq (xR (eCallX gX_tally (bCons (wVar 0) (bCons (wVar 1) aNil)))) (xP fun _ => .bad))
def gX_all_hangings : GXn := fun ds => if ds.length = 3 then outX (fX_all_hangings (Fw.envOf 4 [true, true, true] ds)) else none
def fX_hanging_of : SX := (xSeq (xRV 2 (eCallX gX_tally (bCons (wVar 0) (bCons (wVar 1) aNil)))) (xP fun _ => .bad))
def gX_hanging_of : GXn := fun ds => if ds.length = 3 then outX (fX_hanging_of (Fw.envOf 8 [true, true, true] ds)) else none
def fX_number_of : SX := (xSeq (xR (eCallX gX_is_hanging (bCons (wVar 0) (bCons (wVar 1) (bCons (wVar 2) aNil))))) (xP fun _ => .bad))
def gX_number_of : GXn := fun ds => if ds.length = 3 then outX (fX_number_of (Fw.envOf 6 [true, true, true] ds)) else none
def fX_standing : SX := (xSeq (xDrop (eCallX gX_need_net (bCons (wVar 0) (bCons (wVar 1) aNil)))) (xP fun _ => .bad))
def gX_standing : GXn := fun ds => if ds.length = 2 then outX (fX_standing (Fw.envOf 3 [true, true] ds)) else none
def fX_exchanges : SX := (xSeq (xR (eCallX gX_is_hanging (bCons (wVar 0) (bCons (wVar 1) (bCons (wVar 2) aNil))))) (xP fun _ => .bad))
def gX_exchanges : GXn := fun ds => if ds.length = 4 then outX (fX_exchanges (Fw.envOf 6 [true, true, true, true] ds)) else none
def f__law_mixed (gc : GFn) : SF := (sRet (eBin gMod (wOf (eBin gAdd (wOf (eBin gMul (wOf (eCall gc (aCons (eVar 0) (bCons (wVar 1) aNil)))) (wOf (eC (.int 48271))))) (wOf (eBin gMul (wOf (eBin gMul (wOf (eC (.int 7919))) (wVar 1))) (wVar 1))))) (wOf (eC (.int 1000003)))))
def g__law_mixed (gc : GFn) : GFn := fun ds => if ds.length = 2 then outR (f__law_mixed gc (Fw.envOf 2 [false, true] ds)) else none
def f__law_tree_b1 (gc : GFn) : SF := (seqS (sSet 4 (eCall (g__law_mixed gc) (aCons (eVar 0) (bCons (wOf (eBin gAdd (wOf (eC (.int 4))) (wVar 3))) aNil))))
    (seqS (sSet 5 (eTup (aCons (eBin gMod (wVar 4) (wOf (eBin gAdd (wVar 3) (wOf (eC (.int 1)))))) (aCons (eBin gAdd (wVar 3) (wOf (eC (.int 1)))) aNil))))
    (sApp 2 (eBin gIx (wOf (eLst (aCons (eVar 5) (aCons (eTup (aCons (eBin gIx (wVar 5) (wOf (eC (.int 1)))) (aCons (eBin gIx (wVar 5) (wOf (eC (.int 0)))) aNil))) aNil)))) (wOf (eBin gMod (wOf (eBin gDiv (wVar 4) (wOf (eC (.int 7))))) (wOf (eC (.int 2)))))))))
def f__law_tree (gc : GFn) : SF := (seqS (sSet 2 (eLst aNil))
    (seqS (sFor (iR1 (aCons (eBin gSub (wVar 1) (wOf (eC (.int 1)))) aNil)) (gNm 3) (f__law_tree_b1 gc))
    (sRet (eMv 2))))
def g__law_tree (gc : GFn) : GFn := fun ds => if ds.length = 2 then outR (f__law_tree gc (Fw.envOf 6 [false, true] ds)) else none
def f__law_net_b1 (gc : GFn) : SF := (seqS (sSet 9 (eCall (g__law_mixed gc) (aCons (eVar 0) (bCons (wOf (eBin gAdd (wOf (eC (.int 11))) (wVar 6))) aNil))))
    (seqS (sSet 10 (eBin gMod (wVar 9) (wVar 4)))
    (seqS (sSet 11 (eTup (aCons (eVar 10) (aCons (eBin gMod (wOf (eBin gAdd (wVar 10) (wOf (eBin gMod (wOf (eBin gDiv (wVar 9) (wOf (eC (.int 7))))) (wVar 4))))) (wVar 4)) aNil))))
    (seqS (sIf (cAnd (tstE (eBin gEq (wOf (eBin gMod (wOf (eBin gDiv (wVar 9) (wOf (eC (.int 49))))) (wOf (eC (.int 6))))) (wOf (eC (.int 5))))) (tstE (eBin gNe (wVar 5) (wOf (eLst aNil))))) (sSet 11 (eBin gIx (wVar 5) (wOf (eBin gMod (wOf (eBin gDiv (wVar 9) (wOf (eC (.int 300))))) (wOf (eCallB gLen (bCons (wVar 5) aNil))))))) Out.nx)
    (sApp 5 (eVar 11))))))
def f__law_net (gc : GFn) : SF := (seqS (sSet 3 (eCall (g__law_mixed gc) (aCons (eVar 0) (bCons (wOf (eC (.int 0))) aNil))))
    (seqS (sSet 4 (eBin gAdd (wOf (eC (.int 1))) (wOf (eBin gMod (wVar 3) (wVar 1)))))
    (seqS (sSet 5 (eLst aNil))
    (seqS (sIf (tstE (eBin gGt (wOf (eBin gMod (wOf (eBin gDiv (wVar 3) (wOf (eC (.int 7))))) (wOf (eC (.int 5))))) (wOf (eC (.int 0))))) (sSet 5 (eCall (g__law_tree gc) (aCons (eVar 0) (bCons (wVar 4) aNil)))) Out.nx)
    (seqS (sFor (iR1 (aCons (eBin gMod (wOf (eCall (g__law_mixed gc) (aCons (eVar 0) (bCons (wOf (eC (.int 1))) aNil)))) (wOf (eBin gAdd (wOf (eBin gSub (wVar 2) (wOf (eCallB gLen (bCons (wVar 5) aNil))))) (wOf (eC (.int 1)))))) aNil)) (gNm 6) (f__law_net_b1 gc))
    (seqS (sSet 7 (eBin gMod (wOf (eBin gDiv (wVar 3) (wOf (eC (.int 35))))) (wVar 4)))
    (seqS (sSet 5 (eLc (iLw (wVar 5)) (gTp 2 (gsCons (gNm 10) (gsCons (gNm 12) gsNil))) gTst (eTup (aCons (eBin gMod (wOf (eBin gAdd (wVar 10) (wVar 7))) (wVar 4)) (aCons (eBin gMod (wOf (eBin gAdd (wVar 12) (wVar 7))) (wVar 4)) aNil))) [10, 12]))
    (seqS (sSet 8 (eBin gMod (wOf (eCall (g__law_mixed gc) (aCons (eVar 0) (bCons (wOf (eC (.int 2))) aNil)))) (wOf (eBin gAdd (wOf (eCallB gLen (bCons (wVar 5) aNil))) (wOf (eC (.int 1)))))))
    (sRet (eTup (aCons (eVar 4) (aCons (eBin gAdd (wOf (eSl (wVar 5) (oYes (wVar 8)) oNo)) (wOf (eSl (wVar 5) oNo (oYes (wVar 8))))) aNil))))))))))))
def g__law_net (gc : GFn) : GFn := fun ds => if ds.length = 3 then outR (f__law_net gc (Fw.envOf 13 [false, true, true] ds)) else none
def f__law_bad_tie : SF := (seqS (sSet 2 (eBin gMod (wOf (eBin gDiv (wVar 0) (wOf (eC (.int 14))))) (wOf (eBin gPow (wOf (eC (.int 10))) (wOf (eC (.int 20)))))))
    (seqS (sSet 3 (eLst (aCons (eTup (aCons (eC (.int 0)) (aCons (eVar 1) aNil))) (aCons (eTup (aCons (eVar 1) (aCons (eC (.int 0)) aNil))) (aCons (eTup (aCons (eNeg (eC (.int 1))) (aCons (eC (.int 0)) aNil))) (aCons (eTup (aCons (eC (.int 0)) (aCons (eBin gSub (wOf (eNeg (eC (.int 1)))) (wVar 2)) aNil))) (aCons (eTup (aCons (eC (.int 0)) aNil)) (aCons (eTup (aCons (eC (.int 0)) (aCons (eC (.int 0)) (aCons (eC (.int 0)) aNil)))) (aCons (eLst (aCons (eC (.int 0)) (aCons (eC (.int 0)) aNil))) (aCons (eC .none) (aCons (eTup (aCons (eC (.bool true)) (aCons (eC (.int 0)) aNil))) (aCons (eTup (aCons (eC (.int 0)) (aCons (eC (.bool false)) aNil))) aNil))))))))))))
    (sRet (eBin gIx (wOf (eBin gAdd (wVar 3) (wOf (eLst (aCons (eTup (aCons (eC (.int 0)) (aCons (eC (.str "0")) aNil))) (aCons (eC (.int 5)) (aCons (eC (.str "00")) (aCons (eTup (aCons (eBin gAdd (wVar 1) (wVar 2)) (aCons (eC (.int 0)) aNil))) aNil)))))))) (wOf (eBin gMod (wVar 0) (wOf (eC (.int 14)))))))))
def g__law_bad_tie : GFn := fun ds => if ds.length = 2 then outR (f__law_bad_tie (Fw.envOf 4 [true, true] ds)) else none
def f__law_spoilt : SF := (seqS (sIf (tstE (eBin gEq (wVar 2) (wOf (eC (.int 0))))) (seqS (sSet 5 (eLst (aCons (eC (.int 0)) (aCons (eC (.int 8)) (aCons (eNeg (eC (.int 1))) (aCons (eC (.bool true)) (aCons (eC .none) (aCons (eC (.str "3")) (aCons (eBin gAdd (wOf (eC (.int 8))) (wOf (eBin gMod (wOf (eBin gDiv (wVar 3) (wOf (eC (.int 18))))) (wOf (eBin gPow (wOf (eC (.int 10))) (wOf (eC (.int 20)))))))) (aCons (eLst (aCons (eC (.int 3)) aNil)) (aCons (eTup (aCons (eC (.int 3)) aNil)) aNil)))))))))))
    (sRet (eTup (aCons (eBin gIx (wVar 5) (wOf (eBin gMod (wVar 3) (wOf (eC (.int 9)))))) (aCons (eBin gIx (wOf (eLst (aCons (eLst aNil) (aCons (eVar 1) aNil)))) (wOf (eBin gMod (wOf (eBin gDiv (wVar 3) (wOf (eC (.int 9))))) (wOf (eC (.int 2)))))) aNil))))) Out.nx)
    (seqS (sIf (tstE (eBin gEq (wVar 2) (wOf (eC (.int 1))))) (sRet (eTup (aCons (eVar 0) (aCons (eBin gIx (wOf (eLst (aCons (eC .none) (aCons (eC (.int 5)) (aCons (eCallB gTuple (bCons (wVar 1) aNil)) (aCons eDict0 (aCons (eC (.str "")) aNil))))))) (wOf (eBin gMod (wVar 3) (wOf (eC (.int 5)))))) aNil)))) Out.nx)
    (seqS (sIf (tstE (eBin gEq (wVar 2) (wOf (eC (.int 2))))) (sRet (eTup (aCons (eVar 0) (aCons (eBin gMul (wOf (eLst (aCons (eTup (aCons (eC (.int 0)) (aCons (eC (.int 0)) aNil))) aNil))) (wOf (eC (.int 17)))) aNil)))) Out.nx)
    (seqS (sSet 4 (eBin gMod (wOf (eBin gDiv (wVar 3) (wOf (eC (.int 14))))) (wOf (eBin gAdd (wOf (eCallB gLen (bCons (wVar 1) aNil))) (wOf (eC (.int 1)))))))
    (sRet (eTup (aCons (eVar 0) (aCons (eBin gAdd (wOf (eBin gAdd (wOf (eSl (wVar 1) oNo (oYes (wVar 4)))) (wOf (eLst (aCons (eCall g__law_bad_tie (bCons (wVar 3) (bCons (wVar 0) aNil))) aNil))))) (wOf (eSl (wVar 1) (oYes (wVar 4)) oNo))) aNil))))))))
def g__law_spoilt : GFn := fun ds => if ds.length = 4 then outR (f__law_spoilt (Fw.envOf 6 [true, false, true, true] ds)) else none
def f__law_asked : SX := (xSeq (xIf (tstE (eBin gEq (wVar 0) (wOf (eC (.int 0))))) (xRet (eCallX gX_need_net (bCons (wVar 1) (bCons (wVar 2) aNil)))) (xP .nx))
    (xSeq (xIf (tstE (eBin gEq (wVar 0) (wOf (eC (.int 1))))) (xRet (eCallX gX_parts_of (bCons (wVar 1) (bCons (wVar 2) aNil)))) (xP .nx))
    (xSeq (xIf (tstE (eBin gEq (wVar 0) (wOf (eC (.int 2))))) (xRet (eCallX gX_hangs (bCons (wVar 1) (bCons (wVar 2) aNil)))) (xP .nx))
    (xSeq (xIf (tstE (eBin gEq (wVar 0) (wOf (eC (.int 3))))) (xRet (eCallX gX_net_without (bCons (wVar 1) (bCons (wVar 2) (bCons (wVar 3) aNil))))) (xP .nx))
    (xSeq (xIf (tstE (eBin gEq (wVar 0) (wOf (eC (.int 4))))) (xRet (eCallX gX_net_together (bCons (wVar 1) (bCons (wVar 2) (bCons (wVar 3) aNil))))) (xP .nx))
    (xSeq (xIf (tstE (eBin gEq (wVar 0) (wOf (eC (.int 5))))) (xRet (eCallX gX_table_of (bCons (wVar 1) (bCons (wVar 2) aNil)))) (xP .nx))
    (xSeq (xIf (tstE (eBin gEq (wVar 0) (wOf (eC (.int 6))))) (xRet (eCallX gX_tally (bCons (wVar 1) (bCons (wVar 2) aNil)))) (xP .nx))
    (xSeq (xIf (tstE (eBin gEq (wVar 0) (wOf (eC (.int 7))))) (xRet (eCallX gX_is_hanging (bCons (wVar 1) (bCons (wVar 2) (bCons (wVar 3) aNil))))) (xP .nx))
    (xSeq (xIf (tstE (eBin gEq (wVar 0) (wOf (eC (.int 8))))) (xRet (eCallX gX_all_hangings (bCons (wVar 1) (bCons (wVar 2) (bCons (wOf (eC (.int 0))) aNil))))) (xP .nx))
    (xSeq (xIf (tstE (eBin gEq (wVar 0) (wOf (eC (.int 9))))) (xRet (eCallX gX_hanging_of (bCons (wVar 1) (bCons (wVar 2) (bCons (wVar 3) aNil))))) (xP .nx))
    (xSeq (xIf (tstE (eBin gEq (wVar 0) (wOf (eC (.int 10))))) (xRet (eCallX gX_number_of (bCons (wVar 1) (bCons (wVar 2) (bCons (wVar 3) aNil))))) (xP .nx))
    (xSeq (xIf (tstE (eBin gEq (wVar 0) (wOf (eC (.int 11))))) (xRet (eCallX gX_standing (bCons (wVar 1) (bCons (wVar 2) aNil)))) (xP .nx))
    (xRet (eCallX gX_exchanges (bCons (wVar 1) (bCons (wVar 2) (bCons (wVar 3) (bCons (wVar 3) aNil))))))))))))))))))
def g__law_asked : GXn := fun ds => if ds.length = 4 then outX (f__law_asked (Fw.envOf 4 [true, true, true, true] ds)) else none
def fh__law_refused (a : Addr) (c : Str) : SF := (seqS (sSet 4 (eOr (eIsE a 5 (isc c "BadTie")) (eOr (eIsE a 5 (isc c "SelfTie")) (eIsE a 5 (isc c "BadHanging")))))
    (seqS (sSet 4 (eOr (eVar 4) (eOr (eIsE a 5 (isc c "BadNumber")) (eIsE a 5 (isc c "TooMany")))))
    (sRet (eAnd (eIsE a 5 (isc c "BadNet")) (eAnd (eIsE a 5 (isc c "ValueError")) (eNot (eVar 4)))))))
def f__law_refused : SF := (seqS (sTryN 5 6 cod (fun _ => .bool true) (eCallX g__law_asked (bCons (wVar 0) (bCons (wVar 1) (bCons (wVar 2) (bCons (wVar 3) aNil))))))
    (sRet (eC (.bool false))))
def g__law_refused : GFn := fun ds => if ds.length = 4 then outR (f__law_refused (Fw.envOf 6 [true, true, true, true] ds)) else none
def f_law_b1 (gc : GFn) : SF := (sIf (cNot (tstE (eCall g__law_refused (bCons (wVar 5) (bCons (wOf (eBin gIx (wVar 2) (wOf (eC (.int 0))))) (bCons (wOf (eBin gIx (wVar 2) (wOf (eC (.int 1))))) (bCons (wVar 4) aNil))))))) (sRet (eC (.bool false))) Out.nx)
def f_law (gc : GFn) : SF := (seqS (sAsg (eCall (g__law_net gc) (aCons (eVar 0) (bCons (wOf (eC (.int 7))) (bCons (wOf (eC (.int 16))) aNil)))) (gTp 2 (gsCons (gNm 6) (gsCons (gNm 7) gsNil))))
    (seqS (sSet 1 (eCall (g__law_mixed gc) (aCons (eVar 0) (bCons (wOf (eC (.int 3))) aNil))))
    (seqS (sIf (tstE (eBin (gIsN true) (wOf (eCall g_need_net (bCons (wVar 6) (bCons (wOf (eCallB gList (bCons (wVar 7) aNil))) aNil)))) (wOf (eC .none)))) (sRet (eC (.bool false))) Out.nx)
    (seqS (sSet 2 (eCall g__law_spoilt (bCons (wVar 6) (aCons (eVar 7) (bCons (wOf (eBin gMod (wVar 1) (wOf (eC (.int 5))))) (bCons (wOf (eBin gDiv (wVar 1) (wOf (eC (.int 5))))) aNil))))))
    (seqS (sIf (cAnd (tstE (eBin gGt (wOf (eBin gMod (wVar 1) (wOf (eC (.int 5))))) (wOf (eC (.int 2))))) (tstE (eBin gEq (wOf (eCallB gLen (bCons (wVar 7) aNil))) (wOf (eC (.int 16)))))) (sSet 2 (eTup (aCons (eVar 6) (aCons (eBin gAdd (wOf (eBin gAdd (wOf (eSl (wVar 7) oNo (oYes (wOf (eBin gMod (wOf (eBin gDiv (wVar 1) (wOf (eC (.int 5))))) (wOf (eC (.int 16)))))))) (wOf (eLst (aCons (eCall g__law_bad_tie (bCons (wOf (eBin gDiv (wVar 1) (wOf (eC (.int 80))))) (bCons (wVar 6) aNil))) aNil))))) (wOf (eSl (wVar 7) (oYes (wOf (eBin gAdd (wOf (eC (.int 1))) (wOf (eBin gMod (wOf (eBin gDiv (wVar 1) (wOf (eC (.int 5))))) (wOf (eC (.int 16)))))))) oNo))) aNil)))) Out.nx)
    (seqS (sSet 3 (eCallB gStr (bCons (wVar 2) aNil)))
    (seqS (sSet 4 (eBin gIx (wOf (eLst (aCons (eNeg (eC (.int 1))) (aCons (eC .none) (aCons (eC (.bool true)) (aCons (eC (.str "x")) (aCons (eLst (aCons (eC (.int 0)) (aCons (eC (.int 0)) (aCons (eC (.int 0)) (aCons (eC (.int 0)) (aCons (eC (.int 0)) (aCons (eC (.int 0)) (aCons (eC (.int 0)) aNil)))))))) (aCons (eBin gPow (wOf (eC (.int 10))) (wOf (eC (.int 30)))) aNil)))))))) (wOf (eBin gMod (wOf (eBin gDiv (wVar 1) (wOf (eC (.int 11))))) (wOf (eC (.int 6)))))))
    (seqS (sFor (iL (eLst (aCons (eBin gMod (wOf (eBin gDiv (wVar 1) (wOf (eC (.int 25))))) (wOf (eC (.int 13)))) (aCons (eBin gMod (wOf (eBin gAdd (wOf (eBin gDiv (wVar 1) (wOf (eC (.int 25))))) (wOf (eC (.int 5))))) (wOf (eC (.int 13)))) (aCons (eC (.int 0)) aNil))))) (gNm 5) (f_law_b1 gc))
    (sRet (eBin gEqS (wOf (eCallB gStr (bCons (wVar 2) aNil))) (wVar 3)))))))))))
def g_law (gc : GFn) : GFn := fun ds => if ds.length = 1 then outR (f_law gc (Fw.envOf 8 [false] ds)) else none
end Kx
namespace Kx
open PySem PySem.Spec PyProof.Rows L2 Evl Fw

local macro_rules | `(tactic| walk_at "side") => `(tactic| first | rfl | decide | omega | assumption | (simp only [List.length_cons, List.length_nil]; omega))
local macro_rules | `(tactic| walk_at "opv") => `(tactic| first
  | ((with_reducible apply y_add); rfl; rfl) | ((with_reducible apply y_sub); rfl; rfl) | ((with_reducible apply y_lt); rfl; rfl) | ((with_reducible apply y_le); rfl; rfl)
  | ((with_reducible apply y_gt); rfl; rfl) | ((with_reducible apply y_ge); rfl; rfl) | ((with_reducible apply y_eq); rfl; rfl) | ((with_reducible apply y_ne); rfl; rfl)
  | ((with_reducible apply y_mod); walk_at "side"; rfl; rfl) | ((with_reducible apply y_div); walk_at "side"; rfl; rfl) | ((with_reducible apply y_mulr); walk_at "side"; rfl; rfl) | ((with_reducible apply y_mull); walk_at "side"; rfl; rfl)
  | with_reducible assumption | assumption | rfl)
local macro_rules | `(tactic| walk_at "ev") => `(tactic| first
  | ((with_reducible apply x_wc); rfl; rfl)
  | ((with_reducible apply x_wt); rfl; rfl; rfl)
  | ((with_reducible apply x_w); rfl; (first | rfl | assumption); rfl)
  | ((with_reducible apply x_s); rfl; (first | rfl | assumption); rfl; rfl)
  | ((with_reducible apply x_o); rfl; rfl; rfl; rfl)
  | ((with_reducible apply x_c); rfl; rfl; rfl)
  | ((with_reducible apply x_an); rfl; rfl)
  | ((with_reducible apply x_on); rfl; rfl)
  | ((with_reducible apply v_of); walk_at "ev")
  | ((with_reducible apply v_bin); walk_at "ev"; walk_at "ev"; walk_at "opv")
  | ((with_reducible apply v_ac); walk_at "ev"; walk_at "ev")
  | ((with_reducible apply v_bc); walk_at "ev"; walk_at "ev")
  | ((with_reducible apply v_call); walk_at "ev"; first | with_reducible assumption | assumption | rfl)
  | ((with_reducible apply v_callB); walk_at "ev"; first | with_reducible assumption | assumption | rfl)
  | ((with_reducible apply x_tup); walk_at "ev"; walk_at "side"; rfl; rfl)
  | ((with_reducible apply x_lst); walk_at "ev"; walk_at "side"; rfl; rfl)
  | ((with_reducible apply v_tst); walk_at "ev")
  | ((with_reducible apply v_neg); walk_at "ev")
  | ((with_reducible apply v_ir1); walk_at "ev"; walk_at "side")
  | ((with_reducible apply x_int); rfl; rfl; rfl) | ((with_reducible apply x_ins); rfl; rfl; rfl) | ((with_reducible apply x_ino); rfl; rfl; rfl)
  | ((with_reducible apply v_il); walk_at "ev")
  | ((with_reducible apply v_ilw); walk_at "ev")
  | ((with_reducible apply v_oy); walk_at "ev")
  | ((with_reducible apply x_m); rfl; rfl; rfl))


def mixed (ns : List Int) (k : Int) : Int := (ns.getD k.toNat 0 * 48271 + 7919 * k * k) % 1000003
theorem mixed_lo (ns : List Int) (k : Int) : 0 ≤ mixed ns k ∧ mixed ns k < 1000003 := by
  unfold mixed
  omega
theorem g_mixed {ns : List Int} {sd : PyData} {gc : GFn} (hc : CellOk ns sd gc) {k : Int} (h0 : 0 ≤ k) (h1 : k < 1000) : g__law_mixed gc [sd, .int k] = some (.int (mixed ns k), false) := by
  have e := hc.2 k h0
  have hsd := hc.1
  have h2 : -(2 ^ 64) < k ∧ k < 2 ^ 64 := by omega
  have hr : f__law_mixed gc (Fw.envOf 2 [false, true] [sd, .int k]) = .rt (.int (mixed ns k)) false := by
    show f__law_mixed gc [some (sd, false), some (.int k, false)] = _
    apply w_ret
    walk_at "ev"
  show (if _ then outR _ else _) = _
  rw [hr]
  rfl
def tieD (t : Int × Int) : PyData := .tuple [.int t.1, .int t.2]
def tiesD (ts : List (Int × Int)) : List PyData := ts.map tieD
def Ties (m : Int) (ts : List (Int × Int)) : Prop := ∀ t ∈ ts, (0 ≤ t.1 ∧ t.1 < m) ∧ 0 ≤ t.2 ∧ t.2 < m
theorem Ties.app {m : Int} {ts us : List (Int × Int)} (a : Ties m ts) (b : Ties m us) : Ties m (ts ++ us) := fun t h => (List.mem_append.mp h).elim (a t) (b t)
theorem Ties.one {m a b : Int} (h : 0 ≤ a ∧ a < m) (h2 : 0 ≤ b ∧ b < m) : Ties m [(a, b)] := fun t q => by
  cases List.mem_singleton.mp q
  exact ⟨h, h2⟩
theorem tiesD_app (ts us : List (Int × Int)) : tiesD (ts ++ us) = tiesD ts ++ tiesD us := List.map_append
theorem lay_tie (t : Int × Int) : Lay 1 (tieD t) := lay_tup (n := 0) fun d hd => by
  rcases List.mem_cons.mp hd with e | hd
  · rw [e]; exact lay_int _
  · rw [List.mem_singleton.mp hd]; exact lay_int _
theorem lay_ties (ts : List (Int × Int)) : Lay 2 (.list (tiesD ts)) := lay_list (n := 1) fun d hd => by
  obtain ⟨t, _, rfl⟩ := List.mem_map.mp hd
  exact lay_tie t
theorem tiesD_len (ts : List (Int × Int)) : (tiesD ts).length = ts.length := List.length_map _
section
variable {ns : List Int} {sd : PyData} {gc : GFn} (hc : CellOk ns sd gc)
include hc
theorem g_tree {m : Int} (h1 : 1 ≤ m) (h7 : m ≤ 7) : ∃ ts, g__law_tree gc [sd, .int m] = some (.list (tiesD ts), true) ∧ Ties m ts ∧ ts.length = (m - 1).toNat := by
  have hsd := hc.1
  have main : ∃ ts, f__law_tree gc (Fw.envOf 6 [false, true] [sd, .int m]) = .rt (.list (tiesD ts)) true ∧ Ties m ts ∧ ts.length = (m - 1).toNat := by
    unfold f__law_tree
    refine Exists.elim (loop_rg (g := gNm 3) (fb := f__law_tree_b1 gc) (lo := 0) (n := (m - 1).toNat) (env := [some (sd, false), some (.int m, false), some (.list [], true), none, none, none])
      (fun k env => ∃ a b c ts, env = [some (sd, false), some (.int m, false), some (.list (tiesD ts), true), a, b, c] ∧ Ties m ts ∧ ts.length = k) ⟨none, none, none, [], rfl, fun _ h => (by cases h), rfl⟩ (fun k hk env hp => ?_)) fun e he => ?_
    rotate_left
    · obtain ⟨he, a, b, c, ts, rfl, ht, hl⟩ := he
      refine ⟨ts, ?_, ht, hl⟩
      exact w_seq (w_set (by walk_at "ev")) (w_seq (w_for (by walk_at "ev") he) (w_ret (by walk_at "ev")))
    · obtain ⟨a, b, c, ts, rfl, ht, hl⟩ := hp
      have hm := g_mixed hc (k := 4 + (0 + (k : Int))) (by omega) (by omega)
      generalize mixed ns (4 + (0 + (k : Int))) = z at hm
      have hq : 0 ≤ z % (0 + (k : Int) + 1) ∧ z % (0 + (k : Int) + 1) < 0 + (k : Int) + 1 := ⟨Int.emod_nonneg _ (by omega), Int.emod_lt_of_pos _ (by omega)⟩
      have hp2 : z / 7 % 2 = 0 ∨ z / 7 % 2 = 1 := by omega
      have hlen : (tiesD ts).length < 1000 := by rw [tiesD_len]; omega
      have e3 : tiesD (ts ++ [if z / 7 % 2 = 0 then (z % (0 + (k : Int) + 1), 0 + (k : Int) + 1) else (0 + (k : Int) + 1, z % (0 + (k : Int) + 1))]) = tiesD ts ++ [if z / 7 % 2 = 0 then .tuple [.int (z % (0 + (k : Int) + 1)), .int (0 + (k : Int) + 1)] else .tuple [.int (0 + (k : Int) + 1), .int (z % (0 + (k : Int) + 1))]] := by
        rw [tiesD_app]
        split <;> rfl
      refine ⟨_, _, rfl, .inl (w_seq (w_set (by walk_at "ev")) (w_seq (w_set (by walk_at "ev")) (w_app rfl (v_bin (by walk_at "ev") (by walk_at "ev") (g_ix2 hp2)) rfl hlen hlen))), ?_⟩
      refine ⟨some (.int (0 + (k : Int)), false), some (.int z, false), some (.tuple [.int (z % (0 + (k : Int) + 1)), .int (0 + (k : Int) + 1)], false), ts ++ [if z / 7 % 2 = 0 then (z % (0 + (k : Int) + 1), 0 + (k : Int) + 1) else (0 + (k : Int) + 1, z % (0 + (k : Int) + 1))], by rw [e3]; rfl, ht.app ?_, by rw [List.length_append, hl]; rfl⟩
      split
      · exact Ties.one (by omega) (by omega)
      · exact Ties.one (by omega) (by omega)
  obtain ⟨ts, hr, h⟩ := main
  refine ⟨ts, ?_, h⟩
  show (if _ then outR _ else _) = _
  rw [hr]
  rfl
set_option maxHeartbeats 1000000 in
theorem g_net {mo ro : Int} (h1 : 1 ≤ mo) (h7 : mo ≤ 7) (hr : mo - 1 ≤ ro) (h16 : ro ≤ 16) : ∃ m ts, g__law_net gc [sd, .int mo, .int ro] = some (.tuple [.int m, .list (tiesD ts)], false) ∧ 1 ≤ m ∧ m ≤ mo ∧ Ties m ts ∧ (ts.length : Int) ≤ ro := by
  have hsd := hc.1
  have main : ∃ m ts, f__law_net gc (Fw.envOf 13 [false, true, true] [sd, .int mo, .int ro]) = .rt (.tuple [.int m, .list (tiesD ts)]) false ∧ 1 ≤ m ∧ m ≤ mo ∧ Ties m ts ∧ (ts.length : Int) ≤ ro := by
    unfold f__law_net
    have m0 := g_mixed hc (k := 0) (by decide) (by decide)
    have m1 := g_mixed hc (k := 1) (by decide) (by decide)
    have m2 := g_mixed hc (k := 2) (by decide) (by decide)
    have b0 := mixed_lo ns 0
    have b1 := mixed_lo ns 1
    have b2 := mixed_lo ns 2
    generalize mixed ns 0 = z0 at m0 b0
    generalize mixed ns 1 = z1 at m1 b1
    generalize mixed ns 2 = z2 at m2 b2
    have hm : 0 ≤ z0 % mo ∧ z0 % mo < mo := ⟨Int.emod_nonneg _ (by omega), Int.emod_lt_of_pos _ (by omega)⟩
    -- the tree, or none
    obtain ⟨t0, ht0, hv0, hl0⟩ := g_tree hc (m := 1 + z0 % mo) (by omega) (by omega)
    generalize hmm : 1 + z0 % mo = m at ht0 hv0 hl0
    have hm1 : 1 ≤ m := by omega
    have hmo : m ≤ mo := by omega
    have hif : ∃ T, sIf (tstE (eBin gGt (wOf (eBin gMod (wOf (eBin gDiv (wVar 3) (wOf (eC (.int 7))))) (wOf (eC (.int 5))))) (wOf (eC (.int 0))))) (sSet 5 (eCall (g__law_tree gc) (aCons (eVar 0) (bCons (wVar 4) aNil)))) Out.nx
        [some (sd, false), some (.int mo, false), some (.int ro, false), some (.int z0, false), some (.int m, false), some (.list [], true), none, none, none, none, none, none, none] =
        .nx [some (sd, false), some (.int mo, false), some (.int ro, false), some (.int z0, false), some (.int m, false), some (.list (tiesD T), true), none, none, none, none, none, none, none] ∧ Ties m T ∧ (T.length : Int) ≤ ro := by
      by_cases hz : 0 < z0 / 7 % 5
      · exact ⟨t0, w_ift (by walk_at "ev") (decide_eq_true hz) (w_set' (by walk_at "ev") rfl), hv0, by omega⟩
      · exact ⟨[], w_iff (by walk_at "ev") (decide_eq_false hz) rfl, (fun _ h => by cases h), by simp only [List.length_nil]; omega⟩
    obtain ⟨T, hT, hvT, hlT⟩ := hif
    have hmod : 0 ≤ z1 % (ro - (T.length : Int) + 1) ∧ z1 % (ro - (T.length : Int) + 1) < ro - (T.length : Int) + 1 := ⟨Int.emod_nonneg _ (by omega), Int.emod_lt_of_pos _ (by omega)⟩
    have hlD : ((tiesD T).length : Int) = (T.length : Int) := by rw [tiesD_len]
    -- the loop
    have hloop := loop_rg (g := gNm 6) (fb := f__law_net_b1 gc) (lo := 0) (n := (z1 % (ro - (T.length : Int) + 1)).toNat) (env := [some (sd, false), some (.int mo, false), some (.int ro, false), some (.int z0, false), some (.int m, false), some (.list (tiesD T), true), none, none, none, none, none, none, none])
      (fun k env => ∃ a b c d e ts, env = [some (sd, false), some (.int mo, false), some (.int ro, false), some (.int z0, false), some (.int m, false), some (.list (tiesD ts), true), a, none, none, b, c, d, e] ∧ Ties m ts ∧ ts.length = T.length + k) ⟨none, none, none, none, none, T, rfl, hvT, rfl⟩ (fun k hk env hp => by
        obtain ⟨a, b, c, d, e, ts, rfl, ht, hl⟩ := hp
        have hx := g_mixed hc (k := 11 + (0 + (k : Int))) (by omega) (by omega)
        have bx := mixed_lo ns (11 + (0 + (k : Int)))
        generalize mixed ns (11 + (0 + (k : Int))) = z at hx bx
        have q1 : 0 ≤ z % m ∧ z % m < m := ⟨Int.emod_nonneg _ (by omega), Int.emod_lt_of_pos _ (by omega)⟩
        have q2 : 0 ≤ (z % m + z / 7 % m) % m ∧ (z % m + z / 7 % m) % m < m := ⟨Int.emod_nonneg _ (by omega), Int.emod_lt_of_pos _ (by omega)⟩
        have hlen : (tiesD ts).length < 1000 := by rw [tiesD_len]; omega
        have hlD : ((tiesD ts).length : Int) = (ts.length : Int) := by rw [tiesD_len]
        -- which tie is taken on
        have htie : ∃ t : Int × Int, ((0 ≤ t.1 ∧ t.1 < m) ∧ 0 ≤ t.2 ∧ t.2 < m) ∧ sIf (cAnd (tstE (eBin gEq (wOf (eBin gMod (wOf (eBin gDiv (wVar 9) (wOf (eC (.int 49))))) (wOf (eC (.int 6))))) (wOf (eC (.int 5))))) (tstE (eBin gNe (wVar 5) (wOf (eLst aNil))))) (sSet 11 (eBin gIx (wVar 5) (wOf (eBin gMod (wOf (eBin gDiv (wVar 9) (wOf (eC (.int 300))))) (wOf (eCallB gLen (bCons (wVar 5) aNil))))))) Out.nx
            [some (sd, false), some (.int mo, false), some (.int ro, false), some (.int z0, false), some (.int m, false), some (.list (tiesD ts), true), some (.int (0 + (k : Int)), false), none, none, some (.int z, false), some (.int (z % m), false), some (tieD (z % m, (z % m + z / 7 % m) % m), false), e] =
            .nx [some (sd, false), some (.int mo, false), some (.int ro, false), some (.int z0, false), some (.int m, false), some (.list (tiesD ts), true), some (.int (0 + (k : Int)), false), none, none, some (.int z, false), some (.int (z % m), false), some (tieD t, false), e] := by
          have hne : gNe (.list (tiesD ts)) (.list []) = some (.bool (!ts.isEmpty), false) := by
            rw [gNe_nil (lay_shaped (lay_ties ts) (by decide))]
            cases ts <;> rfl
          by_cases h5 : z / 49 % 6 = 5 ∧ ts ≠ []
          · have hpos : 0 < ts.length := List.length_pos_iff.mpr h5.2
            have hq : 0 ≤ z / 300 % (ts.length : Int) ∧ z / 300 % (ts.length : Int) < ts.length := ⟨Int.emod_nonneg _ (by omega), Int.emod_lt_of_pos _ (by omega)⟩
            refine ⟨ts[(z / 300 % (ts.length : Int)).toNat]'(by omega), ht _ (List.getElem_mem _), ?_⟩
            refine w_ift (v_ca (by walk_at "ev") fun _ => v_tst (v_bin (by walk_at "ev") (by walk_at "ev") hne)) ?_ (w_set' (v_bin (by walk_at "ev") (v_of (v_bin (by walk_at "ev") (by walk_at "ev") (g_mod (by omega)))) (g_ixm (enc := tieD) (by rw [hlD]; exact hq.1) (by rw [hlD]; omega))) ?_)
            · rw [decide_eq_true h5.1]
              cases ts with
              | nil => exact absurd rfl h5.2
              | cons _ _ => rfl
            · simp only [hlD]
              rfl
          · refine ⟨(z % m, (z % m + z / 7 % m) % m), ⟨q1, q2⟩, ?_⟩
            refine w_iff (v_ca (by walk_at "ev") fun _ => v_tst (v_bin (by walk_at "ev") (by walk_at "ev") hne)) ?_ rfl
            by_cases h6 : z / 49 % 6 = 5
            · have : ts = [] := Classical.not_not.mp fun q => h5 ⟨h6, q⟩
              rw [this]
              exact Bool.and_false _
            · rw [decide_eq_false h6]
              rfl
        obtain ⟨t, htv, hs⟩ := htie
        have hfin : f__law_net_b1 gc [some (sd, false), some (.int mo, false), some (.int ro, false), some (.int z0, false), some (.int m, false), some (.list (tiesD ts), true), some (.int (0 + (k : Int)), false), none, none, b, c, d, e] =
            .nx [some (sd, false), some (.int mo, false), some (.int ro, false), some (.int z0, false), some (.int m, false), some (.list (tiesD ts ++ [tieD t]), true), some (.int (0 + (k : Int)), false), none, none, some (.int z, false), some (.int (z % m), false), some (tieD t, false), e] := by
          refine w_seq (w_set (by walk_at "ev")) ?_
          refine w_seq (w_set (by walk_at "ev")) ?_
          refine w_seq (w_set (by walk_at "ev")) ?_
          exact w_seq hs (w_app' rfl (by walk_at "ev") rfl hlen hlen rfl)
        refine ⟨_, _, rfl, .inl hfin, ?_⟩
        refine ⟨some (.int (0 + (k : Int)), false), some (.int z, false), some (.int (z % m), false), some (tieD t, false), e, ts ++ [t], ?_, ht.app (Ties.one htv.1 htv.2), by rw [List.length_append, hl]; rfl⟩
        rw [tiesD_app]
        rfl)
    obtain ⟨e, he, a, b, c, d, x, ts, rfl, ht, hl⟩ := hloop
    have hlt : ts.length ≤ 16 := by omega
    have hlD2 : ((tiesD ts).length : Int) = (ts.length : Int) := by rw [tiesD_len]
    have q3 : 0 ≤ z0 / 35 % m ∧ z0 / 35 % m < m := ⟨Int.emod_nonneg _ (by omega), Int.emod_lt_of_pos _ (by omega)⟩
    have q4 : 0 ≤ z2 % ((ts.length : Int) + 1) ∧ z2 % ((ts.length : Int) + 1) < (ts.length : Int) + 1 := ⟨Int.emod_nonneg _ (by omega), Int.emod_lt_of_pos _ (by omega)⟩
    generalize hw : z0 / 35 % m = w at q3
    -- the ties turned
    have hlc : ∀ e0 : En, e0 = [some (sd, false), some (.int mo, false), some (.int ro, false), some (.int z0, false), some (.int m, false), some (.list (tiesD ts), true), a, some (.int w, false), none, b, none, d, none] →
        lcLoop (gTp 2 (gsCons (gNm 10) (gsCons (gNm 12) gsNil))) gTst (eTup (aCons (eBin gMod (wOf (eBin gAdd (wVar 10) (wVar 7))) (wVar 4)) (aCons (eBin gMod (wOf (eBin gAdd (wVar 12) (wVar 7))) (wVar 4)) aNil))) [10, 12] (tiesD ts) e0 =
          some (((ts.filter fun _ => true).map fun t => tieD ((t.1 + w) % m, (t.2 + w) % m)), e0) := fun e0 he0 => by
      refine lc_map tieD (fun t => tieD ((t.1 + w) % m, (t.2 + w) % m)) (fun _ => true) ts fun t _ => ?_
      subst he0
      exact ⟨_, rfl, rfl, rfl, fun _ => ⟨false, by walk_at "ev"⟩⟩
    have hft : (ts.filter fun _ => true) = ts := List.filter_eq_self.mpr fun _ _ => rfl
    rw [hft] at hlc
    have hmapT : (ts.map fun t : Int × Int => tieD ((t.1 + w) % m, (t.2 + w) % m)) = tiesD (ts.map fun t => ((t.1 + w) % m, (t.2 + w) % m)) := by
      unfold tiesD
      rw [List.map_map]
      rfl
    rw [hmapT] at hlc
    generalize hus : (ts.map fun t : Int × Int => ((t.1 + w) % m, (t.2 + w) % m)) = us at hlc
    have hul : us.length = ts.length := by rw [← hus, List.length_map]
    have hut : Ties m us := fun t h => by
      rw [← hus] at h
      obtain ⟨s, _, rfl⟩ := List.mem_map.mp h
      exact ⟨⟨Int.emod_nonneg _ (by omega), Int.emod_lt_of_pos _ (by omega)⟩, Int.emod_nonneg _ (by omega), Int.emod_lt_of_pos _ (by omega)⟩
    have hlD3 : ((tiesD us).length : Int) = (ts.length : Int) := by rw [tiesD_len, hul]
    generalize hat : z2 % ((ts.length : Int) + 1) = at_ at q4
    refine ⟨m, us.drop at_.toNat ++ us.take at_.toNat, ?_, hm1, hmo, ?_, ?_⟩
    · show seqS _ _ [some (sd, false), some (.int mo, false), some (.int ro, false), none, none, none, none, none, none, none, none, none, none] = _
      refine w_seq (w_set (by walk_at "ev")) ?_
      refine w_seq (w_set (by walk_at "ev")) ?_
      refine w_seq (w_set (by walk_at "ev")) ?_
      subst hmm
      refine w_seq hT ?_
      refine w_seq (w_for (by
        refine v_ir1 (v_ac (v_bin (by walk_at "ev") (by walk_at "ev") (g_mod (by rw [hlD]; omega))) v_an) ?_
        rw [hlD]
        omega) (by rw [hlD]; exact he)) ?_
      refine w_seq (w_set (by walk_at "ev")) ?_
      rw [hw]
      refine w_seq (w_set (v_lc (by walk_at "ev") (by rw [tiesD_len]; omega) (hlc _ rfl))) ?_
      refine w_seq (w_set (v_bin (by walk_at "ev") (by walk_at "ev") (g_mod (by rw [hlD3]; omega)))) ?_
      rw [hlD3, hat]
      refine w_ret' (v_tup (v_ac (by walk_at "ev") (v_ac (v_bin (v_of (v_slL (by walk_at "ev") (by walk_at "ev") (by walk_at "ev"))) (v_of (v_slL (by walk_at "ev") (by walk_at "ev") (by walk_at "ev"))) (g_addL ?_)) v_an)) (by walk_at "side")) ?_
      · rw [cutA_from _ q4.1, cutA_to _ q4.1, List.length_drop, List.length_take, tiesD_len]
        omega
      · rw [cutA_from _ q4.1, cutA_to _ q4.1, tiesD_app]
        unfold tiesD
        rw [List.map_drop, List.map_take]
    · intro t h
      rcases List.mem_append.mp h with h | h
      · exact hut t (List.mem_of_mem_drop h)
      · exact hut t (List.mem_of_mem_take h)
    · rw [List.length_append, List.length_drop, List.length_take]
      omega
  obtain ⟨m, ts, hr, h⟩ := main
  refine ⟨m, ts, ?_, h⟩
  show (if _ then outR _ else _) = _
  rw [hr]
  rfl
end
end Kx
namespace Kx
open PySem PySem.Spec PyProof.Rows L2 Evl Fw

local macro_rules | `(tactic| walk_at "side") => `(tactic| first | rfl | decide | omega | assumption | (simp only [List.length_cons, List.length_nil]; omega))
local macro_rules | `(tactic| walk_at "opv") => `(tactic| first
  | ((with_reducible apply y_add); rfl; rfl) | ((with_reducible apply y_sub); rfl; rfl) | ((with_reducible apply y_lt); rfl; rfl) | ((with_reducible apply y_le); rfl; rfl)
  | ((with_reducible apply y_gt); rfl; rfl) | ((with_reducible apply y_ge); rfl; rfl) | ((with_reducible apply y_eq); rfl; rfl) | ((with_reducible apply y_ne); rfl; rfl)
  | ((with_reducible apply y_mod); walk_at "side"; rfl; rfl) | ((with_reducible apply y_div); walk_at "side"; rfl; rfl) | ((with_reducible apply y_mulr); walk_at "side"; rfl; rfl) | ((with_reducible apply y_mull); walk_at "side"; rfl; rfl)
  | with_reducible assumption | assumption | rfl)
local macro_rules | `(tactic| walk_at "ev") => `(tactic| first
  | ((with_reducible apply x_wc); rfl; rfl)
  | ((with_reducible apply x_wt); rfl; rfl; rfl)
  | ((with_reducible apply x_w); rfl; (first | rfl | assumption); rfl)
  | ((with_reducible apply x_s); rfl; (first | rfl | assumption); rfl; rfl)
  | ((with_reducible apply x_o); rfl; rfl; rfl; rfl)
  | ((with_reducible apply x_c); rfl; rfl; rfl)
  | ((with_reducible apply x_an); rfl; rfl)
  | ((with_reducible apply x_on); rfl; rfl)
  | ((with_reducible apply v_of); walk_at "ev")
  | ((with_reducible apply v_bin); walk_at "ev"; walk_at "ev"; walk_at "opv")
  | ((with_reducible apply v_ac); walk_at "ev"; walk_at "ev")
  | ((with_reducible apply v_bc); walk_at "ev"; walk_at "ev")
  | ((with_reducible apply v_call); walk_at "ev"; first | with_reducible assumption | assumption | rfl)
  | ((with_reducible apply v_callB); walk_at "ev"; first | with_reducible assumption | assumption | rfl)
  | ((with_reducible apply x_tup); walk_at "ev"; walk_at "side"; rfl; rfl)
  | ((with_reducible apply x_lst); walk_at "ev"; walk_at "side"; rfl; rfl)
  | ((with_reducible apply v_tst); walk_at "ev")
  | ((with_reducible apply v_neg); walk_at "ev")
  | ((with_reducible apply v_ir1); walk_at "ev"; walk_at "side")
  | ((with_reducible apply x_int); rfl; rfl; rfl) | ((with_reducible apply x_ins); rfl; rfl; rfl) | ((with_reducible apply x_ino); rfl; rfl; rfl)
  | ((with_reducible apply v_il); walk_at "ev")
  | ((with_reducible apply v_ilw); walk_at "ev")
  | ((with_reducible apply v_oy); walk_at "ev")
  | ((with_reducible apply x_m); rfl; rfl; rfl))


theorem g_of {g : GFn} {f : SF} {n m : Nat} {ms : List Bool} {ds : List PyData} {d : PyData} {fr : Bool} (hg : g = fun ds => if ds.length = n then outR (f (Fw.envOf m ms ds)) else none) (hl : ds.length = n) (h : f (Fw.envOf m ms ds) = .rt d fr) : g ds = some (d, fr) := by
  rw [hg]
  simp only
  rw [if_pos hl, h]
  rfl
theorem g_ofN {g : GFn} {f : SF} {n m : Nat} {ms : List Bool} {ds : List PyData} {e : En} (hg : g = fun ds => if ds.length = n then outR (f (Fw.envOf m ms ds)) else none) (hl : ds.length = n) (h : f (Fw.envOf m ms ds) = .nx e) : g ds = some (.none, false) := by
  rw [hg]
  simp only
  rw [if_pos hl, h]
  rfl

/-! ties of natural numbers -/
def tieN (t : Tie) : PyData := .tuple [.int (t.1 : Nat), .int (t.2 : Nat)]
def natsD (l : List Nat) : PyData := .list (l.map fun (i : Nat) => .int (i : Int))
theorem ties_nat {m : Int} {ts : List (Int × Int)} (h : Ties m ts) : ∃ us : List Tie, tiesD ts = us.map tieN ∧ TiesN m.toNat us ∧ us.length = ts.length := by
  refine ⟨ts.map fun t => (t.1.toNat, t.2.toNat), ?_, fun u hu => ?_, List.length_map _⟩
  · unfold tiesD
    rw [List.map_map]
    refine List.map_congr_left fun t ht => ?_
    have := h t ht
    show tieD t = tieN (t.1.toNat, t.2.toNat)
    unfold tieD tieN
    simp only
    rw [show ((t.1.toNat : Nat) : Int) = t.1 by omega, show ((t.2.toNat : Nat) : Int) = t.2 by omega]
  · obtain ⟨t, ht, rfl⟩ := List.mem_map.mp hu
    have := h t ht
    simp only
    omega
theorem lay_tieN (t : Tie) : Lay 1 (tieN t) := lay_tup (n := 0) fun d hd => by
  rcases List.mem_cons.mp hd with e | hd
  · rw [e]; exact lay_int _
  · rw [List.mem_singleton.mp hd]; exact lay_int _
theorem lay_tiesN (ts : List Tie) : Lay 2 (.list (ts.map tieN)) := lay_list (n := 1) fun d hd => by
  obtain ⟨t, _, rfl⟩ := List.mem_map.mp hd
  exact lay_tieN t
theorem lay_nats (l : List Nat) : Lay 1 (natsD l) := lay_list (n := 0) fun d hd => by
  obtain ⟨t, _, rfl⟩ := List.mem_map.mp hd
  exact lay_int _
theorem lay_natss (l : List (List Nat)) : Lay 2 (.list (l.map natsD)) := lay_list (n := 1) fun d hd => by
  obtain ⟨t, _, rfl⟩ := List.mem_map.mp hd
  exact lay_nats t
theorem g_netN {ns : List Int} {sd : PyData} {gc : GFn} (hc : CellOk ns sd gc) {mo ro : Int} (h1 : 1 ≤ mo) (h7 : mo ≤ 7) (hr : mo - 1 ≤ ro) (h16 : ro ≤ 16) :
    ∃ (n : Nat) (ts : List Tie), g__law_net gc [sd, .int mo, .int ro] = some (.tuple [.int n, .list (ts.map tieN)], false) ∧ 1 ≤ n ∧ (n : Int) ≤ mo ∧ TiesN n ts ∧ (ts.length : Int) ≤ ro := by
  obtain ⟨m, ts, h, h2, h3, h4, h5⟩ := g_net hc h1 h7 hr h16
  obtain ⟨us, e1, e2, e3⟩ := ties_nat h4
  refine ⟨m.toNat, us, ?_, by omega, by omega, e2, by rw [e3]; exact h5⟩
  rw [h, e1, show ((m.toNat : Nat) : Int) = m by omega]

/-! need_net -/
theorem gv_is_whole {v l h : Int} : g_is_whole [.int v, .int l, .int h] = some (.bool (decide (l ≤ v) && decide (v ≤ h)), false) := by
  refine g_of (f := f_is_whole) rfl rfl (w_ret' (v_and (v_ty (by walk_at "ev") rfl) fun _ => v_chain (by walk_at "ev") (by walk_at "ev") g_le (fun _ => by walk_at "ev") fun _ => g_le) ?_)
  simp
theorem g_is_tie {n : Nat} {t : Tie} (h : t.1 < n ∧ t.2 < n) : g__is_tie [.int n, tieN t] = some (.bool true, false) := by
  have w1 := gv_is_whole (v := (t.1 : Nat)) (l := 0) (h := (n : Int) - 1)
  have w2 := gv_is_whole (v := (t.2 : Nat)) (l := 0) (h := (n : Int) - 1)
  rw [decide_eq_true (by omega), decide_eq_true (by omega)] at w1 w2
  refine g_of (f := f__is_tie) rfl rfl ?_
  refine w_seq (w_iff (v_co (v_tst (v_ty (by walk_at "ev") rfl)) fun _ => v_tst (v_bin (by walk_at "ev") (by walk_at "ev") g_ne)) ?_ rfl) ?_
  · simp
  · exact w_ret (v_and (v_call (v_bc (v_of (v_bin (by walk_at "ev") (by walk_at "ev") (g_ixT rfl))) (by walk_at "ev")) w1) fun _ => v_call (v_bc (v_of (v_bin (by walk_at "ev") (by walk_at "ev") (g_ixT rfl))) (by walk_at "ev")) w2)
section
variable {n : Nat} {ts : List Tie} (h1 : 1 ≤ n) (h7 : n ≤ 7) (hv : TiesN n ts) (hl : ts.length ≤ 16)
include h1 h7 hv hl
theorem g_need : g_need_net [.int n, .list (ts.map tieN)] = some (.none, false) := by
  have w1 := gv_is_whole (v := (n : Nat)) (l := 1) (h := 7)
  rw [decide_eq_true (by omega), decide_eq_true (by omega)] at w1
  have hlen : ((ts.map tieN).length : Int) = ts.length := by rw [List.length_map]
  obtain ⟨e, he, _⟩ := loop_map (g := gNm 2) (fb := f_need_net_b1) (env := [some (.int n, false), some (tokD (ts.map tieN), false), none]) tieN ts (fun k env => ∃ x, env = [some (.int n, false), some (tokD (ts.map tieN), false), x]) ⟨none, rfl⟩ (fun k hk env hp => by
    obtain ⟨x, rfl⟩ := hp
    have ht := g_is_tie (hv ts[k] (List.getElem_mem _))
    exact ⟨_, _, rfl, .inl (w_iff (v_cn (v_tst (by walk_at "ev"))) rfl rfl), _, rfl⟩)
  refine g_ofN (f := f_need_net) (e := e) rfl rfl ?_
  refine w_seq (w_iff (v_cn (v_tst (by walk_at "ev"))) rfl rfl) ?_
  refine w_seq (w_iff (v_co (v_tst (v_ty (by walk_at "ev") rfl)) fun _ => v_tst (by walk_at "ev")) ?_ rfl) ?_
  · show (false || decide ((16 : Int) < ((ts.map tieN).length : Int))) = false
    rw [hlen, decide_eq_false (by omega)]
    rfl
  · exact w_for (by walk_at "ev") he
/-! parts_of -/
def lsD (n : Nat) (f : Nat → Nat) : PyData := .list ((List.range n).map fun (i : Nat) => .int (f i : Nat))
omit h1 h7 hv hl in
theorem g_ls {n a : Nat} {f : Nat → Nat} (h : a < n) : gIx (lsD n f) (.int (a : Nat)) = some (.int (f a : Nat), false) := by
  unfold lsD
  refine g_ixL (atI_nat ?_)
  rw [List.getElem?_map, List.getElem?_range h]
  rfl
omit h1 h7 hv hl in
theorem lo_cast (f : Nat → Nat) (t : Tie) : (if ((f t.2 : Nat) : Int) < (f t.1 : Nat) then ((f t.2 : Nat) : Int) else (f t.1 : Nat)) = ((lo f t : Nat) : Int) := by
  unfold lo
  split <;> split <;> omega
omit h1 h7 hv hl in
theorem hi_cast (f : Nat → Nat) (t : Tie) : (if ((f t.2 : Nat) : Int) > (f t.1 : Nat) then ((f t.2 : Nat) : Int) else (f t.1 : Nat)) = ((hi f t : Nat) : Int) := by
  unfold hi
  split <;> split <;> omega
end
/-! the law's own going -/
theorem any_nats (p : Nat) (l : List Nat) : ((l.map fun (i : Nat) => PyData.int (i : Int)).any fun d => intOf d == some (p : Int)) = decide (p ∈ l) := by
  induction l with
  | nil => rfl
  | cons a r ih =>
    rw [List.map_cons, List.any_cons, ih]
    have e : (intOf (PyData.int (a : Int)) == some (p : Int)) = decide (p = a) := by
      show (some (a : Int) == some (p : Int)) = _
      by_cases h : p = a
      · subst h
        simp
      · rw [decide_eq_false h]
        simpa using fun z => h (by omega)
    rw [e]
    by_cases h : p = a
    · rw [decide_eq_true h, Bool.true_or]
      exact (decide_eq_true (by rw [h]; exact List.mem_cons_self)).symm
    · rw [decide_eq_false h, Bool.false_or]
      exact decide_eq_decide.mpr ⟨fun m => List.mem_cons_of_mem _ m, fun m => (List.mem_cons.mp m).elim (fun z => absurd z h) id⟩
theorem all_nats (l : List Nat) : ((l.map fun (i : Nat) => PyData.int (i : Int)).all fun d => (intOf d).isSome) = true := by
  rw [List.all_eq_true]
  intro d hd
  obtain ⟨i, _, rfl⟩ := List.mem_map.mp hd
  rfl
theorem g_in {neg : Bool} (p : Nat) (l : List Nat) : gIn neg (.int (p : Int)) (natsD l) = some (.bool (if neg then !decide (p ∈ l) else decide (p ∈ l)), false) := by
  unfold natsD
  show (if _ then _ else _) = _
  rw [if_pos (all_nats l), any_nats]
theorem g_ixN {l : List Nat} {k x : Nat} (h : l[k]? = some x) : gIx (natsD l) (.int (k : Int)) = some (.int (x : Int), false) := by
  unfold natsD
  refine g_ixL (atI_nat ?_)
  rw [List.getElem?_map, h]
  rfl
theorem natsD_app (l r : List Nat) : natsD (l ++ r) = .list ((l.map fun (i : Nat) => PyData.int (i : Int)) ++ r.map fun (i : Nat) => PyData.int (i : Int)) := by
  unfold natsD
  rw [List.map_append]
def castL (l : List Nat) : List Int := l.map fun (i : Nat) => (i : Int)
theorem natsD_cast (l : List Nat) : natsD l = .list ((castL l).map .int) := by
  unfold natsD castL
  rw [List.map_map]
  rfl
theorem g_sortedN {l r : List Nat} (h : l.length < 64) (hp : l.Perm r) (hr : r.Pairwise (· < ·)) : gSorted [natsD l] = some (natsD r, true) := by
  rw [natsD_cast, natsD_cast]
  unfold gSorted
  simp only [intsOf_map, Option.bind_some]
  rw [if_pos (by unfold castL; rw [List.length_map]; exact h)]
  have e : sortI (castL l) = castL r := sorted_one ((sortI_perm _).trans (hp.map _)) (sortI_sorted _) (by
    unfold castL
    refine List.pairwise_map.mpr (hr.imp fun h => ?_)
    omega)
  rw [e]
end Kx
namespace Kx
open PySem PySem.Spec PyProof.Rows L2 Evl Fw
local macro_rules | `(tactic| walk_at "side") => `(tactic| first | rfl | decide | omega | assumption | (simp only [List.length_cons, List.length_nil]; omega))
local macro_rules | `(tactic| walk_at "opv") => `(tactic| first
  | ((with_reducible apply y_add); rfl; rfl) | ((with_reducible apply y_sub); rfl; rfl) | ((with_reducible apply y_lt); rfl; rfl) | ((with_reducible apply y_le); rfl; rfl)
  | ((with_reducible apply y_gt); rfl; rfl) | ((with_reducible apply y_ge); rfl; rfl) | ((with_reducible apply y_eq); rfl; rfl) | ((with_reducible apply y_ne); rfl; rfl)
  | ((with_reducible apply y_mod); walk_at "side"; rfl; rfl) | ((with_reducible apply y_div); walk_at "side"; rfl; rfl) | ((with_reducible apply y_mulr); walk_at "side"; rfl; rfl) | ((with_reducible apply y_mull); walk_at "side"; rfl; rfl)
  | with_reducible assumption | assumption | rfl)
local macro_rules | `(tactic| walk_at "ev") => `(tactic| first
  | ((with_reducible apply x_wc); rfl; rfl)
  | ((with_reducible apply x_wt); rfl; rfl; rfl)
  | ((with_reducible apply x_w); rfl; (first | rfl | assumption); rfl)
  | ((with_reducible apply x_s); rfl; (first | rfl | assumption); rfl; rfl)
  | ((with_reducible apply x_o); rfl; rfl; rfl; rfl)
  | ((with_reducible apply x_c); rfl; rfl; rfl)
  | ((with_reducible apply x_an); rfl; rfl)
  | ((with_reducible apply x_on); rfl; rfl)
  | ((with_reducible apply v_of); walk_at "ev")
  | ((with_reducible apply v_bin); walk_at "ev"; walk_at "ev"; walk_at "opv")
  | ((with_reducible apply v_ac); walk_at "ev"; walk_at "ev")
  | ((with_reducible apply v_bc); walk_at "ev"; walk_at "ev")
  | ((with_reducible apply v_call); walk_at "ev"; first | with_reducible assumption | assumption | rfl)
  | ((with_reducible apply v_callB); walk_at "ev"; first | with_reducible assumption | assumption | rfl)
  | ((with_reducible apply x_tup); walk_at "ev"; walk_at "side"; rfl; rfl)
  | ((with_reducible apply x_lst); walk_at "ev"; walk_at "side"; rfl; rfl)
  | ((with_reducible apply v_tst); walk_at "ev")
  | ((with_reducible apply v_neg); walk_at "ev")
  | ((with_reducible apply v_ir1); walk_at "ev"; walk_at "side")
  | ((with_reducible apply x_int); rfl; rfl; rfl) | ((with_reducible apply x_ins); rfl; rfl; rfl) | ((with_reducible apply x_ino); rfl; rfl; rfl)
  | ((with_reducible apply v_il); walk_at "ev")
  | ((with_reducible apply v_ilw); walk_at "ev")
  | ((with_reducible apply v_oy); walk_at "ev")
  | ((with_reducible apply x_m); rfl; rfl; rfl))
theorem gx_of {g : GXn} {f : SX} {n m : Nat} {ms : List Bool} {ds : List PyData} {r : Rs} {o : OutX} (hg : g = fun ds => if ds.length = n then outX (f (Fw.envOf m ms ds)) else none) (hl : ds.length = n) (h : f (Fw.envOf m ms ds) = o) (ho : outX o = some r) : g ds = some r := by
  subst hg
  show (if ds.length = n then outX (f (Fw.envOf m ms ds)) else none) = _
  rw [if_pos hl, h]
  exact ho
theorem v_sl {env : En} {i : Nat} {d : PyData} {o : Bool} (h : env[i]? = some (some (slotOf true d, o))) (ht : tokOf d = none) : wVar i env = some (d, env) := by
  cases d <;> first | exact v_wt h | exact v_w h ht
def inR (l h : Int) : PyData → Bool
  | .int v => decide (l ≤ v) && decide (v ≤ h)
  | _ => false
theorem iw_any {d : PyData} {T : String} {l h : Int} (hT : tyN d = some T) (ht : tokOf d = none) : g_is_whole [d, .int l, .int h] = some (.bool (inR l h d), false) := by
  by_cases q : ∃ v, d = .int v
  · obtain ⟨v, rfl⟩ := q
    exact gv_is_whole
  · have hn : inR l h d = false := by
      cases d <;> first | rfl | exact absurd ⟨_, rfl⟩ q
    have hne : decide (T = "int") = false := by
      cases d with
      | dict kvs => cases kvs <;> (cases hT; try decide)
      | _ => first | (cases hT; decide) | exact absurd ⟨_, rfl⟩ q
    rw [hn]
    refine g_of (f := f_is_whole) rfl rfl ?_
    show f_is_whole [some (slotOf true d, false), some (.int l, false), some (.int h, false)] = _
    have h1 := v_ty (T := "int") (neg := false) (v_sl (i := 0) (env := [some (slotOf true d, false), some (.int l, false), some (.int h, false)]) rfl ht) hT
    simp only [Bool.false_eq_true, if_false, hne] at h1
    exact w_ret (v_and (b := false) (b2 := false) h1 (fun z => nomatch z))
def nxI : PyData → Int
  | .int v => v + 1
  | _ => 0
def risesD (h : Int) : Int → List PyData → Bool
  | _, [] => true
  | l, d :: r => inR l h d && risesD h (nxI d) r
def Plain (d : PyData) : Prop := tokOf d = none ∧ ∃ T, tyN d = some T
theorem plain_int (i : Int) : Plain (.int i) := ⟨rfl, "int", rfl⟩
/-! ties, good and bad -/
theorem is_tie_no {n : Int} {d : PyData} {T : String} (ht : tokOf d = none) (hT : tyN d = some T) (hne : T ≠ "tuple") : g__is_tie [.int n, d] = some (.bool false, false) := by
  refine g_of (f := f__is_tie) rfl rfl ?_
  show f__is_tie [some (.int n, false), some (slotOf true d, false)] = _
  have e1 := v_ty (T := "tuple") (neg := true) (v_sl (i := 1) (env := [some (.int n, false), some (slotOf true d, false)]) rfl ht) hT
  simp only [if_true, decide_eq_false hne, Bool.not_false] at e1
  exact w_seqr (w_ift (b := true) (v_co (b1 := true) (b2 := false) (v_tst e1) (fun z => nomatch z)) rfl (w_ret v_c))
theorem is_tie_len {n : Int} {ds : List PyData} (h : ds.length ≠ 2) : g__is_tie [.int n, .tuple ds] = some (.bool false, false) := by
  refine g_of (f := f__is_tie) rfl rfl ?_
  show f__is_tie [some (.int n, false), some (.tuple ds, false)] = _
  have g0 := g_ne (i := (ds.length : Int)) (j := 2)
  rw [decide_eq_false (show ¬ (ds.length : Int) = 2 by omega)] at g0
  have t1 : tstE (eTy true "tuple" (wVar 1)) [some (.int n, false), some (.tuple ds, false)] = some (false, [some (.int n, false), some (.tuple ds, false)]) := by
    have h := v_ty (T := "tuple") (neg := true) (n := "tuple") (v_w (i := 1) (d := .tuple ds) (env := [some (.int n, false), some (.tuple ds, false)]) rfl rfl) rfl
    simp only [if_true, decide_true, Bool.not_true] at h
    exact v_tst h
  have t2 : tstE (eBin gNe (wOf (eCallB gLen (bCons (wVar 1) aNil))) (wOf (eC (.int 2)))) [some (.int n, false), some (.tuple ds, false)] = some (true, [some (.int n, false), some (.tuple ds, false)]) := v_tst (v_bin (v_of (v_callB (v_bc (v_w rfl rfl) v_an) rfl)) v_wc g0)
  exact w_seqr (w_ift (b := true) (v_co (b1 := false) (b2 := true) t1 fun _ => t2) rfl (w_ret v_c))
theorem is_tie_two {n : Int} {x y : PyData} (hx : Plain x) (hy : Plain y) : g__is_tie [.int n, .tuple [x, y]] = some (.bool (inR 0 (n - 1) x && inR 0 (n - 1) y), false) := by
  obtain ⟨tx, T, hT⟩ := hx
  obtain ⟨ty, U, hU⟩ := hy
  refine g_of (f := f__is_tie) rfl rfl ?_
  show f__is_tie [some (.int n, false), some (.tuple [x, y], false)] = _
  have t1 : tstE (eTy true "tuple" (wVar 1)) [some (.int n, false), some (.tuple [x, y], false)] = some (false, [some (.int n, false), some (.tuple [x, y], false)]) := by
    have h := v_ty (T := "tuple") (neg := true) (n := "tuple") (v_w (i := 1) (d := .tuple [x, y]) (env := [some (.int n, false), some (.tuple [x, y], false)]) rfl rfl) rfl
    simp only [if_true, decide_true, Bool.not_true] at h
    exact v_tst h
  have t2 : tstE (eBin gNe (wOf (eCallB gLen (bCons (wVar 1) aNil))) (wOf (eC (.int 2)))) [some (.int n, false), some (.tuple [x, y], false)] = some (false, [some (.int n, false), some (.tuple [x, y], false)]) := v_tst (v_bin (v_of (v_callB (v_bc (v_w rfl rfl) v_an) rfl)) v_wc (rfl : gNe (.int 2) (.int 2) = some (.bool false, false)))
  refine w_seq (w_iff (b := false) (v_co (b1 := false) (b2 := false) t1 fun _ => t2) rfl rfl) ?_
  have u1 : eCall g_is_whole (bCons (wOf (eBin gIx (wVar 1) (wOf (eC (.int 0))))) (bCons (wOf (eC (.int 0))) (bCons (wOf (eBin gSub (wVar 0) (wOf (eC (.int 1))))) aNil))) [some (.int n, false), some (.tuple [x, y], false)] = some (.bool (inR 0 (n - 1) x), false, [some (.int n, false), some (.tuple [x, y], false)]) :=
    v_call (v_bc (v_of (v_bin (v_w rfl rfl) v_wc (rfl : gIx (.tuple [x, y]) (.int 0) = some (x, false)))) (v_bc v_wc (v_bc (v_of (v_bin (v_w rfl rfl) v_wc g_sub)) v_an))) (iw_any hT tx)
  have u2 : eCall g_is_whole (bCons (wOf (eBin gIx (wVar 1) (wOf (eC (.int 1))))) (bCons (wOf (eC (.int 0))) (bCons (wOf (eBin gSub (wVar 0) (wOf (eC (.int 1))))) aNil))) [some (.int n, false), some (.tuple [x, y], false)] = some (.bool (inR 0 (n - 1) y), false, [some (.int n, false), some (.tuple [x, y], false)]) :=
    v_call (v_bc (v_of (v_bin (v_w rfl rfl) v_wc (rfl : gIx (.tuple [x, y]) (.int 1) = some (y, false)))) (v_bc v_wc (v_bc (v_of (v_bin (v_w rfl rfl) v_wc g_sub)) v_an))) (iw_any hU ty)
  exact w_ret (v_and u1 fun _ => u2)
/-! what is no net -/
theorem bad_many {m t : PyData} (hm : Plain m) (hb : inR 1 7 m = false) (ht : tokOf t = none) : gX_need_net [m, t] = some (.exc "BadNet") := by
  obtain ⟨tm, T, hT⟩ := hm
  have hw := iw_any (l := 1) (h := 7) hT tm
  rw [hb] at hw
  refine gx_of (f := fX_need_net) rfl rfl (o := .ex _) ?_ rfl
  show fX_need_net [some (slotOf true m, false), some (slotOf true t, false), none] = _
  exact y_seqx (y_if (b := true) (v_cn (b := false) (v_tst (v_call (v_bc (v_sl rfl tm) (v_bc v_wc (v_bc v_wc v_an))) hw))) (fun _ => rfl) (fun z => nomatch z))
section
variable {n : Nat} (h1 : 1 ≤ n) (h7 : n ≤ 7)
include h1 h7
theorem ok_many : g_is_whole [.int (n : Int), .int 1, .int 7] = some (.bool true, false) := by
  rw [gv_is_whole, decide_eq_true (show (1 : Int) ≤ (n : Int) by omega), decide_eq_true (show (n : Int) ≤ 7 by omega)]
  rfl
theorem bad_kind {t : PyData} {T : String} (ht : tokOf t = none) (hT : tyN t = some T) (hne : T ≠ "list") : gX_need_net [.int (n : Int), t] = some (.exc "BadNet") := by
  refine gx_of (f := fX_need_net) rfl rfl (o := .ex _) ?_ rfl
  show fX_need_net [some (.int (n : Int), false), some (slotOf true t, false), none] = _
  have e1 := v_ty (T := "list") (neg := true) (v_sl (i := 1) (env := [some (.int (n : Int), false), some (slotOf true t, false), none]) rfl ht) hT
  simp only [if_true, decide_eq_false hne, Bool.not_false] at e1
  refine y_seq (y_if (b := false) (v_cn (b := true) (v_tst (v_call (v_bc (v_w rfl rfl) (v_bc v_wc (v_bc v_wc v_an))) (ok_many h1 h7)))) (fun z => nomatch z) (fun _ => y_p rfl)) ?_
  exact y_seqx (y_if (b := true) (v_co (b1 := true) (b2 := false) (v_tst e1) (fun z => nomatch z)) (fun _ => rfl) (fun z => nomatch z))
theorem bad_long {ds : List PyData} (h : 16 < ds.length) : gX_need_net [.int (n : Int), .list ds] = some (.exc "BadNet") := by
  refine gx_of (f := fX_need_net) rfl rfl (o := .ex _) ?_ rfl
  show fX_need_net [some (.int (n : Int), false), some (tokD ds, false), none] = _
  refine y_seq (y_if (b := false) (v_cn (b := true) (v_tst (v_call (v_bc (v_w rfl rfl) (v_bc v_wc (v_bc v_wc v_an))) (ok_many h1 h7)))) (fun z => nomatch z) (fun _ => y_p rfl)) ?_
  exact y_seqx (y_if (b := true) (v_co (b1 := false) (b2 := true) (v_tst (v_ty (v_wt rfl) rfl)) fun _ => v_tst (v_bin (v_of (v_callB (v_bc (v_wt rfl) v_an) rfl)) v_wc (by rw [g_gt, decide_eq_true (by omega)]))) (fun _ => rfl) (fun z => nomatch z))
theorem bad_loop {D : List PyData} {bad : PyData} (ht : tokOf bad = none) (hb : g__is_tie [.int (n : Int), bad] = some (.bool false, false)) : ∀ (us : List Tie) (rest : List PyData) (o : Option (PyData × Bool)), TiesN n us →
    loopX (gNm 2) (xIf (cNot (tstE (eCall g__is_tie (bCons (wVar 0) (bCons (wVar 2) aNil))))) (xRaise "BadNet") (xP .nx)) (us.map tieN ++ bad :: rest) [some (.int (n : Int), false), some (tokD D, false), o] = .ex "BadNet"
  | [], rest, o, _ => by
    have h : xIf (cNot (tstE (eCall g__is_tie (bCons (wVar 0) (bCons (wVar 2) aNil))))) (xRaise "BadNet") (xP .nx) [some (.int (n : Int), false), some (tokD D, false), some (bad, false)] = .ex "BadNet" :=
      y_if (b := true) (v_cn (b := false) (v_tst (v_call (v_bc (v_w rfl rfl) (v_bc (v_w rfl ht) v_an)) hb))) (fun _ => rfl) (fun z => nomatch z)
    show (match xIf _ _ _ [some (.int (n : Int), false), some (tokD D, false), some (bad, false)] with | .ok (.nx e2) => _ | .ok (.ct e2) => _ | .ok (.bk e2) => _ | o => o) = _
    rw [h]
  | u :: us, rest, o, hv => by
    have h : xIf (cNot (tstE (eCall g__is_tie (bCons (wVar 0) (bCons (wVar 2) aNil))))) (xRaise "BadNet") (xP .nx) [some (.int (n : Int), false), some (tokD D, false), some (tieN u, false)] = .ok (.nx [some (.int (n : Int), false), some (tokD D, false), some (tieN u, false)]) :=
      y_if (b := false) (v_cn (b := true) (v_tst (v_call (v_bc (v_w rfl rfl) (v_bc (v_w rfl rfl) v_an)) (g_is_tie (hv u List.mem_cons_self))))) (fun z => nomatch z) (fun _ => y_p rfl)
    have ih := bad_loop (D := D) ht hb us rest (some (tieN u, false)) fun t q => hv t (List.mem_cons_of_mem _ q)
    show (match xIf _ _ _ [some (.int (n : Int), false), some (tokD D, false), some (tieN u, false)] with | .ok (.nx e2) => _ | .ok (.ct e2) => _ | .ok (.bk e2) => _ | o => o) = _
    rw [h]
    exact ih
theorem bad_tie {us : List Tie} {rest : List PyData} {bad : PyData} (hv : TiesN n us) (ht : tokOf bad = none) (hb : g__is_tie [.int (n : Int), bad] = some (.bool false, false)) : gX_need_net [.int (n : Int), .list (us.map tieN ++ bad :: rest)] = some (.exc "BadNet") := by
  by_cases hl : 16 < (us.map tieN ++ bad :: rest).length
  · exact bad_long h1 h7 hl
  · refine gx_of (f := fX_need_net) rfl rfl (o := .ex _) ?_ rfl
    have hlp := bad_loop h1 h7 (D := us.map tieN ++ bad :: rest) ht hb us rest none hv
    generalize us.map tieN ++ bad :: rest = ds at *
    show fX_need_net [some (.int (n : Int), false), some (tokD ds, false), none] = _
    refine y_seq (y_if (b := false) (v_cn (b := true) (v_tst (v_call (v_bc (v_w rfl rfl) (v_bc v_wc (v_bc v_wc v_an))) (ok_many h1 h7)))) (fun z => nomatch z) (fun _ => y_p rfl)) ?_
    refine y_seq (y_if (b := false) (v_co (b1 := false) (b2 := false) (v_tst (v_ty (v_wt rfl) rfl)) fun _ => v_tst (v_bin (v_of (v_callB (v_bc (v_wt rfl) v_an) rfl)) v_wc (by rw [g_gt, decide_eq_false (by omega)]))) (fun z => nomatch z) (fun _ => y_p rfl)) ?_
    exact y_forx (v_int rfl) hlp
end
end Kx
namespace Kx
open PySem PySem.Spec PyProof.Rows L2 Evl Fw
local macro_rules | `(tactic| walk_at "side") => `(tactic| first | rfl | decide | omega | assumption | (simp only [List.length_cons, List.length_nil]; omega))
local macro_rules | `(tactic| walk_at "opv") => `(tactic| first
  | ((with_reducible apply y_add); rfl; rfl) | ((with_reducible apply y_sub); rfl; rfl) | ((with_reducible apply y_lt); rfl; rfl) | ((with_reducible apply y_le); rfl; rfl)
  | ((with_reducible apply y_gt); rfl; rfl) | ((with_reducible apply y_ge); rfl; rfl) | ((with_reducible apply y_eq); rfl; rfl) | ((with_reducible apply y_ne); rfl; rfl)
  | ((with_reducible apply y_mod); walk_at "side"; rfl; rfl) | ((with_reducible apply y_div); walk_at "side"; rfl; rfl) | ((with_reducible apply y_mulr); walk_at "side"; rfl; rfl) | ((with_reducible apply y_mull); walk_at "side"; rfl; rfl)
  | with_reducible assumption | assumption | rfl)
local macro_rules | `(tactic| walk_at "ev") => `(tactic| first
  | ((with_reducible apply x_wc); rfl; rfl)
  | ((with_reducible apply x_wt); rfl; rfl; rfl)
  | ((with_reducible apply x_w); rfl; (first | rfl | assumption); rfl)
  | ((with_reducible apply x_s); rfl; (first | rfl | assumption); rfl; rfl)
  | ((with_reducible apply x_o); rfl; rfl; rfl; rfl)
  | ((with_reducible apply x_c); rfl; rfl; rfl)
  | ((with_reducible apply x_an); rfl; rfl)
  | ((with_reducible apply x_on); rfl; rfl)
  | ((with_reducible apply v_of); walk_at "ev")
  | ((with_reducible apply v_bin); walk_at "ev"; walk_at "ev"; walk_at "opv")
  | ((with_reducible apply v_ac); walk_at "ev"; walk_at "ev")
  | ((with_reducible apply v_bc); walk_at "ev"; walk_at "ev")
  | ((with_reducible apply v_call); walk_at "ev"; first | with_reducible assumption | assumption | rfl)
  | ((with_reducible apply v_callB); walk_at "ev"; first | with_reducible assumption | assumption | rfl)
  | ((with_reducible apply x_tup); walk_at "ev"; walk_at "side"; rfl; rfl)
  | ((with_reducible apply x_lst); walk_at "ev"; walk_at "side"; rfl; rfl)
  | ((with_reducible apply v_tst); walk_at "ev")
  | ((with_reducible apply v_neg); walk_at "ev")
  | ((with_reducible apply v_ir1); walk_at "ev"; walk_at "side")
  | ((with_reducible apply x_int); rfl; rfl; rfl) | ((with_reducible apply x_ins); rfl; rfl; rfl) | ((with_reducible apply x_ino); rfl; rfl; rfl)
  | ((with_reducible apply v_il); walk_at "ev")
  | ((with_reducible apply v_ilw); walk_at "ev")
  | ((with_reducible apply v_oy); walk_at "ev")
  | ((with_reducible apply x_m); rfl; rfl; rfl))
section
variable {m t : PyData} (hm : tokOf m = none) (ht : tokOf t = none) (h : gX_need_net [m, t] = some (.exc "BadNet"))
include hm ht h
theorem x_parts_of : gX_parts_of [m, t] = some (.exc "BadNet") := by
  refine gx_of (f := fX_parts_of) rfl rfl (o := .ex _) ?_ rfl
  exact y_seqx (y_dropx (y_call (v_bc (v_sl rfl hm) (v_bc (v_sl rfl ht) v_an)) h))
theorem x_hangs : gX_hangs [m, t] = some (.exc "BadNet") := by
  refine gx_of (f := fX_hangs) rfl rfl (o := .ex _) ?_ rfl
  exact y_R (y_call (v_bc (v_sl rfl hm) (v_bc (v_sl rfl ht) v_an)) (x_parts_of hm ht h))
theorem x__need_tie {o : PyData} (ho : tokOf o = none) : gX__need_tie [m, t, o] = some (.exc "BadNet") := by
  refine gx_of (f := fX__need_tie) rfl rfl (o := .ex _) ?_ rfl
  exact y_seqx (y_dropx (y_call (v_bc (v_sl rfl hm) (v_bc (v_sl rfl ht) v_an)) h))
theorem x_net_without {o : PyData} (ho : tokOf o = none) : gX_net_without [m, t, o] = some (.exc "BadNet") := by
  refine gx_of (f := fX_net_without) rfl rfl (o := .ex _) ?_ rfl
  exact y_seqx (y_dropx (y_call (v_bc (v_sl rfl hm) (v_bc (v_sl rfl ht) (v_bc (v_sl rfl ho) v_an))) (x__need_tie hm ht h ho)))
theorem x_net_together {o : PyData} (ho : tokOf o = none) : gX_net_together [m, t, o] = some (.exc "BadNet") := by
  refine gx_of (f := fX_net_together) rfl rfl (o := .ex _) ?_ rfl
  exact y_seqx (y_setx (y_call (v_bc (v_sl rfl hm) (v_bc (v_sl rfl ht) (v_bc (v_sl rfl ho) v_an))) (x_net_without hm ht h ho)))
theorem x_table_of : gX_table_of [m, t] = some (.exc "BadNet") := by
  refine gx_of (f := fX_table_of) rfl rfl (o := .ex _) ?_ rfl
  exact y_seqx (y_dropx (y_call (v_bc (v_sl rfl hm) (v_bc (v_sl rfl ht) v_an)) h))
theorem x_tally : gX_tally [m, t] = some (.exc "BadNet") := by
  refine gx_of (f := fX_tally) rfl rfl (o := .ex _) ?_ rfl
  exact y_seqx (y_setx (y_call (v_bc (v_sl rfl hm) (v_bc (v_sl rfl ht) v_an)) (x_table_of hm ht h)))
theorem x_is_hanging {o : PyData} (ho : tokOf o = none) : gX_is_hanging [m, t, o] = some (.exc "BadNet") := by
  refine gx_of (f := fX_is_hanging) rfl rfl (o := .ex _) ?_ rfl
  exact y_seqx (y_dropx (y_call (v_bc (v_sl rfl hm) (v_bc (v_sl rfl ht) v_an)) h))
theorem x_all_hangings {o : PyData} (ho : tokOf o = none) : gX_all_hangings [m, t, o] = some (.exc "BadNet") := by
  refine gx_of (f := fX_all_hangings) rfl rfl (o := .ex _) ?_ rfl
  exact y_seqx (y_R (y_call (v_bc (v_sl rfl hm) (v_bc (v_sl rfl ht) v_an)) (x_tally hm ht h)))
theorem x_hanging_of {o : PyData} (ho : tokOf o = none) : gX_hanging_of [m, t, o] = some (.exc "BadNet") := by
  refine gx_of (f := fX_hanging_of) rfl rfl (o := .ex _) ?_ rfl
  exact y_seqx (y_RV rfl (y_call (v_bc (v_sl rfl hm) (v_bc (v_sl rfl ht) v_an)) (x_tally hm ht h)))
theorem x_number_of {o : PyData} (ho : tokOf o = none) : gX_number_of [m, t, o] = some (.exc "BadNet") := by
  refine gx_of (f := fX_number_of) rfl rfl (o := .ex _) ?_ rfl
  exact y_seqx (y_R (y_call (v_bc (v_sl rfl hm) (v_bc (v_sl rfl ht) (v_bc (v_sl rfl ho) v_an))) (x_is_hanging hm ht h ho)))
theorem x_standing : gX_standing [m, t] = some (.exc "BadNet") := by
  refine gx_of (f := fX_standing) rfl rfl (o := .ex _) ?_ rfl
  exact y_seqx (y_dropx (y_call (v_bc (v_sl rfl hm) (v_bc (v_sl rfl ht) v_an)) h))
theorem x_exchanges {o : PyData} (ho : tokOf o = none) : gX_exchanges [m, t, o, o] = some (.exc "BadNet") := by
  refine gx_of (f := fX_exchanges) rfl rfl (o := .ex _) ?_ rfl
  exact y_seqx (y_R (y_call (v_bc (v_sl rfl hm) (v_bc (v_sl rfl ht) (v_bc (v_sl rfl ho) v_an))) (x_is_hanging hm ht h ho)))
theorem x_asked {o : PyData} (ho : tokOf o = none) {j : Nat} (hj : j < 13) : g__law_asked [.int (j : Int), m, t, o] = some (.exc "BadNet") := by
  refine gx_of (f := f__law_asked) rfl rfl (o := .ex _) ?_ rfl
  show f__law_asked [some (.int (j : Int), false), some (slotOf true m, false), some (slotOf true t, false), some (slotOf true o, false)] = _
  by_cases q0 : j = 0
  · subst q0
    exact y_seqx (y_if (b := true) (v_tst (v_bin (v_w rfl rfl) v_wc rfl)) (fun _ => y_retx (y_call (v_bc (v_sl rfl hm) (v_bc (v_sl rfl ht) v_an)) h)) (fun z => nomatch z))
  by_cases q1 : j = 1
  · subst q1
    refine y_seq (y_if (b := false) (v_tst (v_bin (v_w rfl rfl) v_wc rfl)) (fun z => nomatch z) (fun _ => y_p rfl)) ?_
    exact y_seqx (y_if (b := true) (v_tst (v_bin (v_w rfl rfl) v_wc rfl)) (fun _ => y_retx (y_call (v_bc (v_sl rfl hm) (v_bc (v_sl rfl ht) v_an)) (x_parts_of hm ht h))) (fun z => nomatch z))
  by_cases q2 : j = 2
  · subst q2
    refine y_seq (y_if (b := false) (v_tst (v_bin (v_w rfl rfl) v_wc rfl)) (fun z => nomatch z) (fun _ => y_p rfl)) ?_
    refine y_seq (y_if (b := false) (v_tst (v_bin (v_w rfl rfl) v_wc rfl)) (fun z => nomatch z) (fun _ => y_p rfl)) ?_
    exact y_seqx (y_if (b := true) (v_tst (v_bin (v_w rfl rfl) v_wc rfl)) (fun _ => y_retx (y_call (v_bc (v_sl rfl hm) (v_bc (v_sl rfl ht) v_an)) (x_hangs hm ht h))) (fun z => nomatch z))
  by_cases q3 : j = 3
  · subst q3
    refine y_seq (y_if (b := false) (v_tst (v_bin (v_w rfl rfl) v_wc rfl)) (fun z => nomatch z) (fun _ => y_p rfl)) ?_
    refine y_seq (y_if (b := false) (v_tst (v_bin (v_w rfl rfl) v_wc rfl)) (fun z => nomatch z) (fun _ => y_p rfl)) ?_
    refine y_seq (y_if (b := false) (v_tst (v_bin (v_w rfl rfl) v_wc rfl)) (fun z => nomatch z) (fun _ => y_p rfl)) ?_
    exact y_seqx (y_if (b := true) (v_tst (v_bin (v_w rfl rfl) v_wc rfl)) (fun _ => y_retx (y_call (v_bc (v_sl rfl hm) (v_bc (v_sl rfl ht) (v_bc (v_sl rfl ho) v_an))) (x_net_without hm ht h ho))) (fun z => nomatch z))
  by_cases q4 : j = 4
  · subst q4
    refine y_seq (y_if (b := false) (v_tst (v_bin (v_w rfl rfl) v_wc rfl)) (fun z => nomatch z) (fun _ => y_p rfl)) ?_
    refine y_seq (y_if (b := false) (v_tst (v_bin (v_w rfl rfl) v_wc rfl)) (fun z => nomatch z) (fun _ => y_p rfl)) ?_
    refine y_seq (y_if (b := false) (v_tst (v_bin (v_w rfl rfl) v_wc rfl)) (fun z => nomatch z) (fun _ => y_p rfl)) ?_
    refine y_seq (y_if (b := false) (v_tst (v_bin (v_w rfl rfl) v_wc rfl)) (fun z => nomatch z) (fun _ => y_p rfl)) ?_
    exact y_seqx (y_if (b := true) (v_tst (v_bin (v_w rfl rfl) v_wc rfl)) (fun _ => y_retx (y_call (v_bc (v_sl rfl hm) (v_bc (v_sl rfl ht) (v_bc (v_sl rfl ho) v_an))) (x_net_together hm ht h ho))) (fun z => nomatch z))
  by_cases q5 : j = 5
  · subst q5
    refine y_seq (y_if (b := false) (v_tst (v_bin (v_w rfl rfl) v_wc rfl)) (fun z => nomatch z) (fun _ => y_p rfl)) ?_
    refine y_seq (y_if (b := false) (v_tst (v_bin (v_w rfl rfl) v_wc rfl)) (fun z => nomatch z) (fun _ => y_p rfl)) ?_
    refine y_seq (y_if (b := false) (v_tst (v_bin (v_w rfl rfl) v_wc rfl)) (fun z => nomatch z) (fun _ => y_p rfl)) ?_
    refine y_seq (y_if (b := false) (v_tst (v_bin (v_w rfl rfl) v_wc rfl)) (fun z => nomatch z) (fun _ => y_p rfl)) ?_
    refine y_seq (y_if (b := false) (v_tst (v_bin (v_w rfl rfl) v_wc rfl)) (fun z => nomatch z) (fun _ => y_p rfl)) ?_
    exact y_seqx (y_if (b := true) (v_tst (v_bin (v_w rfl rfl) v_wc rfl)) (fun _ => y_retx (y_call (v_bc (v_sl rfl hm) (v_bc (v_sl rfl ht) v_an)) (x_table_of hm ht h))) (fun z => nomatch z))
  by_cases q6 : j = 6
  · subst q6
    refine y_seq (y_if (b := false) (v_tst (v_bin (v_w rfl rfl) v_wc rfl)) (fun z => nomatch z) (fun _ => y_p rfl)) ?_
    refine y_seq (y_if (b := false) (v_tst (v_bin (v_w rfl rfl) v_wc rfl)) (fun z => nomatch z) (fun _ => y_p rfl)) ?_
    refine y_seq (y_if (b := false) (v_tst (v_bin (v_w rfl rfl) v_wc rfl)) (fun z => nomatch z) (fun _ => y_p rfl)) ?_
    refine y_seq (y_if (b := false) (v_tst (v_bin (v_w rfl rfl) v_wc rfl)) (fun z => nomatch z) (fun _ => y_p rfl)) ?_
    refine y_seq (y_if (b := false) (v_tst (v_bin (v_w rfl rfl) v_wc rfl)) (fun z => nomatch z) (fun _ => y_p rfl)) ?_
    refine y_seq (y_if (b := false) (v_tst (v_bin (v_w rfl rfl) v_wc rfl)) (fun z => nomatch z) (fun _ => y_p rfl)) ?_
    exact y_seqx (y_if (b := true) (v_tst (v_bin (v_w rfl rfl) v_wc rfl)) (fun _ => y_retx (y_call (v_bc (v_sl rfl hm) (v_bc (v_sl rfl ht) v_an)) (x_tally hm ht h))) (fun z => nomatch z))
  by_cases q7 : j = 7
  · subst q7
    refine y_seq (y_if (b := false) (v_tst (v_bin (v_w rfl rfl) v_wc rfl)) (fun z => nomatch z) (fun _ => y_p rfl)) ?_
    refine y_seq (y_if (b := false) (v_tst (v_bin (v_w rfl rfl) v_wc rfl)) (fun z => nomatch z) (fun _ => y_p rfl)) ?_
    refine y_seq (y_if (b := false) (v_tst (v_bin (v_w rfl rfl) v_wc rfl)) (fun z => nomatch z) (fun _ => y_p rfl)) ?_
    refine y_seq (y_if (b := false) (v_tst (v_bin (v_w rfl rfl) v_wc rfl)) (fun z => nomatch z) (fun _ => y_p rfl)) ?_
    refine y_seq (y_if (b := false) (v_tst (v_bin (v_w rfl rfl) v_wc rfl)) (fun z => nomatch z) (fun _ => y_p rfl)) ?_
    refine y_seq (y_if (b := false) (v_tst (v_bin (v_w rfl rfl) v_wc rfl)) (fun z => nomatch z) (fun _ => y_p rfl)) ?_
    refine y_seq (y_if (b := false) (v_tst (v_bin (v_w rfl rfl) v_wc rfl)) (fun z => nomatch z) (fun _ => y_p rfl)) ?_
    exact y_seqx (y_if (b := true) (v_tst (v_bin (v_w rfl rfl) v_wc rfl)) (fun _ => y_retx (y_call (v_bc (v_sl rfl hm) (v_bc (v_sl rfl ht) (v_bc (v_sl rfl ho) v_an))) (x_is_hanging hm ht h ho))) (fun z => nomatch z))
  by_cases q8 : j = 8
  · subst q8
    refine y_seq (y_if (b := false) (v_tst (v_bin (v_w rfl rfl) v_wc rfl)) (fun z => nomatch z) (fun _ => y_p rfl)) ?_
    refine y_seq (y_if (b := false) (v_tst (v_bin (v_w rfl rfl) v_wc rfl)) (fun z => nomatch z) (fun _ => y_p rfl)) ?_
    refine y_seq (y_if (b := false) (v_tst (v_bin (v_w rfl rfl) v_wc rfl)) (fun z => nomatch z) (fun _ => y_p rfl)) ?_
    refine y_seq (y_if (b := false) (v_tst (v_bin (v_w rfl rfl) v_wc rfl)) (fun z => nomatch z) (fun _ => y_p rfl)) ?_
    refine y_seq (y_if (b := false) (v_tst (v_bin (v_w rfl rfl) v_wc rfl)) (fun z => nomatch z) (fun _ => y_p rfl)) ?_
    refine y_seq (y_if (b := false) (v_tst (v_bin (v_w rfl rfl) v_wc rfl)) (fun z => nomatch z) (fun _ => y_p rfl)) ?_
    refine y_seq (y_if (b := false) (v_tst (v_bin (v_w rfl rfl) v_wc rfl)) (fun z => nomatch z) (fun _ => y_p rfl)) ?_
    refine y_seq (y_if (b := false) (v_tst (v_bin (v_w rfl rfl) v_wc rfl)) (fun z => nomatch z) (fun _ => y_p rfl)) ?_
    exact y_seqx (y_if (b := true) (v_tst (v_bin (v_w rfl rfl) v_wc rfl)) (fun _ => y_retx (y_call (v_bc (v_sl rfl hm) (v_bc (v_sl rfl ht) (v_bc v_wc v_an))) (x_all_hangings hm ht h rfl))) (fun z => nomatch z))
  by_cases q9 : j = 9
  · subst q9
    refine y_seq (y_if (b := false) (v_tst (v_bin (v_w rfl rfl) v_wc rfl)) (fun z => nomatch z) (fun _ => y_p rfl)) ?_
    refine y_seq (y_if (b := false) (v_tst (v_bin (v_w rfl rfl) v_wc rfl)) (fun z => nomatch z) (fun _ => y_p rfl)) ?_
    refine y_seq (y_if (b := false) (v_tst (v_bin (v_w rfl rfl) v_wc rfl)) (fun z => nomatch z) (fun _ => y_p rfl)) ?_
    refine y_seq (y_if (b := false) (v_tst (v_bin (v_w rfl rfl) v_wc rfl)) (fun z => nomatch z) (fun _ => y_p rfl)) ?_
    refine y_seq (y_if (b := false) (v_tst (v_bin (v_w rfl rfl) v_wc rfl)) (fun z => nomatch z) (fun _ => y_p rfl)) ?_
    refine y_seq (y_if (b := false) (v_tst (v_bin (v_w rfl rfl) v_wc rfl)) (fun z => nomatch z) (fun _ => y_p rfl)) ?_
    refine y_seq (y_if (b := false) (v_tst (v_bin (v_w rfl rfl) v_wc rfl)) (fun z => nomatch z) (fun _ => y_p rfl)) ?_
    refine y_seq (y_if (b := false) (v_tst (v_bin (v_w rfl rfl) v_wc rfl)) (fun z => nomatch z) (fun _ => y_p rfl)) ?_
    refine y_seq (y_if (b := false) (v_tst (v_bin (v_w rfl rfl) v_wc rfl)) (fun z => nomatch z) (fun _ => y_p rfl)) ?_
    exact y_seqx (y_if (b := true) (v_tst (v_bin (v_w rfl rfl) v_wc rfl)) (fun _ => y_retx (y_call (v_bc (v_sl rfl hm) (v_bc (v_sl rfl ht) (v_bc (v_sl rfl ho) v_an))) (x_hanging_of hm ht h ho))) (fun z => nomatch z))
  by_cases q10 : j = 10
  · subst q10
    refine y_seq (y_if (b := false) (v_tst (v_bin (v_w rfl rfl) v_wc rfl)) (fun z => nomatch z) (fun _ => y_p rfl)) ?_
    refine y_seq (y_if (b := false) (v_tst (v_bin (v_w rfl rfl) v_wc rfl)) (fun z => nomatch z) (fun _ => y_p rfl)) ?_
    refine y_seq (y_if (b := false) (v_tst (v_bin (v_w rfl rfl) v_wc rfl)) (fun z => nomatch z) (fun _ => y_p rfl)) ?_
    refine y_seq (y_if (b := false) (v_tst (v_bin (v_w rfl rfl) v_wc rfl)) (fun z => nomatch z) (fun _ => y_p rfl)) ?_
    refine y_seq (y_if (b := false) (v_tst (v_bin (v_w rfl rfl) v_wc rfl)) (fun z => nomatch z) (fun _ => y_p rfl)) ?_
    refine y_seq (y_if (b := false) (v_tst (v_bin (v_w rfl rfl) v_wc rfl)) (fun z => nomatch z) (fun _ => y_p rfl)) ?_
    refine y_seq (y_if (b := false) (v_tst (v_bin (v_w rfl rfl) v_wc rfl)) (fun z => nomatch z) (fun _ => y_p rfl)) ?_
    refine y_seq (y_if (b := false) (v_tst (v_bin (v_w rfl rfl) v_wc rfl)) (fun z => nomatch z) (fun _ => y_p rfl)) ?_
    refine y_seq (y_if (b := false) (v_tst (v_bin (v_w rfl rfl) v_wc rfl)) (fun z => nomatch z) (fun _ => y_p rfl)) ?_
    refine y_seq (y_if (b := false) (v_tst (v_bin (v_w rfl rfl) v_wc rfl)) (fun z => nomatch z) (fun _ => y_p rfl)) ?_
    exact y_seqx (y_if (b := true) (v_tst (v_bin (v_w rfl rfl) v_wc rfl)) (fun _ => y_retx (y_call (v_bc (v_sl rfl hm) (v_bc (v_sl rfl ht) (v_bc (v_sl rfl ho) v_an))) (x_number_of hm ht h ho))) (fun z => nomatch z))
  by_cases q11 : j = 11
  · subst q11
    refine y_seq (y_if (b := false) (v_tst (v_bin (v_w rfl rfl) v_wc rfl)) (fun z => nomatch z) (fun _ => y_p rfl)) ?_
    refine y_seq (y_if (b := false) (v_tst (v_bin (v_w rfl rfl) v_wc rfl)) (fun z => nomatch z) (fun _ => y_p rfl)) ?_
    refine y_seq (y_if (b := false) (v_tst (v_bin (v_w rfl rfl) v_wc rfl)) (fun z => nomatch z) (fun _ => y_p rfl)) ?_
    refine y_seq (y_if (b := false) (v_tst (v_bin (v_w rfl rfl) v_wc rfl)) (fun z => nomatch z) (fun _ => y_p rfl)) ?_
    refine y_seq (y_if (b := false) (v_tst (v_bin (v_w rfl rfl) v_wc rfl)) (fun z => nomatch z) (fun _ => y_p rfl)) ?_
    refine y_seq (y_if (b := false) (v_tst (v_bin (v_w rfl rfl) v_wc rfl)) (fun z => nomatch z) (fun _ => y_p rfl)) ?_
    refine y_seq (y_if (b := false) (v_tst (v_bin (v_w rfl rfl) v_wc rfl)) (fun z => nomatch z) (fun _ => y_p rfl)) ?_
    refine y_seq (y_if (b := false) (v_tst (v_bin (v_w rfl rfl) v_wc rfl)) (fun z => nomatch z) (fun _ => y_p rfl)) ?_
    refine y_seq (y_if (b := false) (v_tst (v_bin (v_w rfl rfl) v_wc rfl)) (fun z => nomatch z) (fun _ => y_p rfl)) ?_
    refine y_seq (y_if (b := false) (v_tst (v_bin (v_w rfl rfl) v_wc rfl)) (fun z => nomatch z) (fun _ => y_p rfl)) ?_
    refine y_seq (y_if (b := false) (v_tst (v_bin (v_w rfl rfl) v_wc rfl)) (fun z => nomatch z) (fun _ => y_p rfl)) ?_
    exact y_seqx (y_if (b := true) (v_tst (v_bin (v_w rfl rfl) v_wc rfl)) (fun _ => y_retx (y_call (v_bc (v_sl rfl hm) (v_bc (v_sl rfl ht) v_an)) (x_standing hm ht h))) (fun z => nomatch z))
  have q12 : j = 12 := by omega
  subst q12
  refine y_seq (y_if (b := false) (v_tst (v_bin (v_w rfl rfl) v_wc rfl)) (fun z => nomatch z) (fun _ => y_p rfl)) ?_
  refine y_seq (y_if (b := false) (v_tst (v_bin (v_w rfl rfl) v_wc rfl)) (fun z => nomatch z) (fun _ => y_p rfl)) ?_
  refine y_seq (y_if (b := false) (v_tst (v_bin (v_w rfl rfl) v_wc rfl)) (fun z => nomatch z) (fun _ => y_p rfl)) ?_
  refine y_seq (y_if (b := false) (v_tst (v_bin (v_w rfl rfl) v_wc rfl)) (fun z => nomatch z) (fun _ => y_p rfl)) ?_
  refine y_seq (y_if (b := false) (v_tst (v_bin (v_w rfl rfl) v_wc rfl)) (fun z => nomatch z) (fun _ => y_p rfl)) ?_
  refine y_seq (y_if (b := false) (v_tst (v_bin (v_w rfl rfl) v_wc rfl)) (fun z => nomatch z) (fun _ => y_p rfl)) ?_
  refine y_seq (y_if (b := false) (v_tst (v_bin (v_w rfl rfl) v_wc rfl)) (fun z => nomatch z) (fun _ => y_p rfl)) ?_
  refine y_seq (y_if (b := false) (v_tst (v_bin (v_w rfl rfl) v_wc rfl)) (fun z => nomatch z) (fun _ => y_p rfl)) ?_
  refine y_seq (y_if (b := false) (v_tst (v_bin (v_w rfl rfl) v_wc rfl)) (fun z => nomatch z) (fun _ => y_p rfl)) ?_
  refine y_seq (y_if (b := false) (v_tst (v_bin (v_w rfl rfl) v_wc rfl)) (fun z => nomatch z) (fun _ => y_p rfl)) ?_
  refine y_seq (y_if (b := false) (v_tst (v_bin (v_w rfl rfl) v_wc rfl)) (fun z => nomatch z) (fun _ => y_p rfl)) ?_
  refine y_seq (y_if (b := false) (v_tst (v_bin (v_w rfl rfl) v_wc rfl)) (fun z => nomatch z) (fun _ => y_p rfl)) ?_
  exact y_retx (y_call (v_bc (v_sl rfl hm) (v_bc (v_sl rfl ht) (v_bc (v_sl rfl ho) (v_bc (v_sl rfl ho) v_an)))) (x_exchanges hm ht h ho))
theorem g_refused {o : PyData} (ho : tokOf o = none) {j : Nat} (hj : j < 13) : g__law_refused [.int (j : Int), m, t, o] = some (.bool true, false) := by
  refine g_of (f := f__law_refused) rfl rfl ?_
  show f__law_refused [some (.int (j : Int), false), some (slotOf true m, false), some (slotOf true t, false), some (slotOf true o, false), none, none] = _
  exact w_seqr (v_tryNx (y_call (v_bc (v_w rfl rfl) (v_bc (v_sl rfl hm) (v_bc (v_sl rfl ht) (v_bc (v_sl rfl ho) v_an)))) (x_asked hm ht h ho hj)) (show cod "BadNet" = some 0 from rfl) (show (5 : Nat) < 6 by decide) rfl)
end
end Kx
namespace Kx
open PySem PySem.Spec PyProof.Rows L2 Evl Fw
local macro_rules | `(tactic| walk_at "side") => `(tactic| first | rfl | decide | omega | assumption | (simp only [List.length_cons, List.length_nil]; omega))
local macro_rules | `(tactic| walk_at "opv") => `(tactic| first
  | ((with_reducible apply y_add); rfl; rfl) | ((with_reducible apply y_sub); rfl; rfl) | ((with_reducible apply y_lt); rfl; rfl) | ((with_reducible apply y_le); rfl; rfl)
  | ((with_reducible apply y_gt); rfl; rfl) | ((with_reducible apply y_ge); rfl; rfl) | ((with_reducible apply y_eq); rfl; rfl) | ((with_reducible apply y_ne); rfl; rfl)
  | ((with_reducible apply y_mod); walk_at "side"; rfl; rfl) | ((with_reducible apply y_div); walk_at "side"; rfl; rfl) | ((with_reducible apply y_mulr); walk_at "side"; rfl; rfl) | ((with_reducible apply y_mull); walk_at "side"; rfl; rfl)
  | with_reducible assumption | assumption | rfl)
local macro_rules | `(tactic| walk_at "ev") => `(tactic| first
  | ((with_reducible apply x_wc); rfl; rfl)
  | ((with_reducible apply x_wt); rfl; rfl; rfl)
  | ((with_reducible apply x_w); rfl; (first | rfl | assumption); rfl)
  | ((with_reducible apply x_s); rfl; (first | rfl | assumption); rfl; rfl)
  | ((with_reducible apply x_o); rfl; rfl; rfl; rfl)
  | ((with_reducible apply x_c); rfl; rfl; rfl)
  | ((with_reducible apply x_an); rfl; rfl)
  | ((with_reducible apply x_on); rfl; rfl)
  | ((with_reducible apply v_of); walk_at "ev")
  | ((with_reducible apply v_bin); walk_at "ev"; walk_at "ev"; walk_at "opv")
  | ((with_reducible apply v_ac); walk_at "ev"; walk_at "ev")
  | ((with_reducible apply v_bc); walk_at "ev"; walk_at "ev")
  | ((with_reducible apply v_call); walk_at "ev"; first | with_reducible assumption | assumption | rfl)
  | ((with_reducible apply v_callB); walk_at "ev"; first | with_reducible assumption | assumption | rfl)
  | ((with_reducible apply x_tup); walk_at "ev"; walk_at "side"; rfl; rfl)
  | ((with_reducible apply x_lst); walk_at "ev"; walk_at "side"; rfl; rfl)
  | ((with_reducible apply v_tst); walk_at "ev")
  | ((with_reducible apply v_neg); walk_at "ev")
  | ((with_reducible apply v_ir1); walk_at "ev"; walk_at "side")
  | ((with_reducible apply x_int); rfl; rfl; rfl) | ((with_reducible apply x_ins); rfl; rfl; rfl) | ((with_reducible apply x_ino); rfl; rfl; rfl)
  | ((with_reducible apply v_il); walk_at "ev")
  | ((with_reducible apply v_ilw); walk_at "ev")
  | ((with_reducible apply v_oy); walk_at "ev")
  | ((with_reducible apply x_m); rfl; rfl; rfl))
def BadP (m t : PyData) : Prop := tokOf m = none ∧ tokOf t = none ∧ gX_need_net [m, t] = some (.exc "BadNet") ∧ (Fw.strAt (.tuple [m, t]) || pairD (.tuple [m, t])) = true
theorem sm_two {m t : PyData} (hm : Sm 10000 3 m) (ht : Sm 10000 3 t) : (Fw.strAt (.tuple [m, t]) || pairD (.tuple [m, t])) = true := by
  have h := small_tup (ds := [m, t]) (w := 10000) (j := 3) fun x hx => by
    rcases List.mem_cons.mp hx with rfl | hx
    · exact hm
    · rw [List.mem_singleton.mp hx]; exact ht
  have h2 := h.at (show [m, t].length * (10000 + 1) ≤ 100000 by show 2 * (10000 + 1) ≤ 100000; decide) (by decide)
  rw [h2]
  rfl
theorem smT {m t : PyData} (hm : Sm 101 0 m) (ht : Sm 50000 5 t) : (Fw.strAt (.tuple [m, t]) || pairD (.tuple [m, t])) = true := by
  have hd : (PyData.tuple [m, t]).depth ≤ 6 := by
    have a := hm.dep
    have b := ht.dep
    simp only [PyData.depth, PyData.depthAll]
    omega
  have hw : (PyData.tuple [m, t]).weight ≤ 60000 := by
    have a := hm.wt
    have b := ht.wt
    simp only [PyData.weight, PyData.weightAll]
    omega
  have h : Sm 60000 6 (.tuple [m, t]) := ⟨by simp [PyData.canLay0, PyData.canLayAll0, hm.lay, ht.lay], hd, by simp [PyData.showable, PyData.showableAll, hm.sho, ht.sho], by simp [PyData.intsShort, PyData.intsShortAll, hm.sh, ht.sh], hw⟩
  rw [h.at (by decide) (by decide)]
  rfl
theorem all_split {a b : List PyData} : PyData.canLayAll0 (a ++ b) = (PyData.canLayAll0 a && PyData.canLayAll0 b) ∧ PyData.showableAll (a ++ b) = (PyData.showableAll a && PyData.showableAll b) ∧ PyData.intsShortAll 100 (a ++ b) = (PyData.intsShortAll 100 a && PyData.intsShortAll 100 b) ∧ PyData.weightAll (a ++ b) = PyData.weightAll a + PyData.weightAll b ∧ PyData.depthAll (a ++ b) ≤ max (PyData.depthAll a) (PyData.depthAll b) := by
  induction a with
  | nil => simp [PyData.canLayAll0, PyData.showableAll, PyData.intsShortAll, PyData.weightAll, PyData.depthAll]
  | cons x r ih =>
    obtain ⟨h1, h2, h3, h4, h5⟩ := ih
    refine ⟨?_, ?_, ?_, ?_, ?_⟩
    · simp [PyData.canLayAll0, h1, Bool.and_assoc]
    · simp [PyData.showableAll, h2, Bool.and_assoc]
    · simp [PyData.intsShortAll, h3, Bool.and_assoc]
    · simp only [List.cons_append, PyData.weightAll, h4]
      omega
    · simp only [List.cons_append, PyData.depthAll]
      omega
theorem sm_between {a b : List PyData} {d : PyData} (ha : ∀ x ∈ a, Sm 204 1 x) (hd : Sm 10000 3 d) (hb : ∀ x ∈ b, Sm 204 1 x) (hl : a.length + b.length ≤ 40) : Sm 50000 5 (.list (a ++ [d] ++ b)) := by
  obtain ⟨a1, a2, a3, a4, a5⟩ := small_all ha
  obtain ⟨b1, b2, b3, b4, b5⟩ := small_all hb
  obtain ⟨c1, c2, c3, c4, c5⟩ := small_all (ds := [d]) fun x hx => by rw [List.mem_singleton.mp hx]; exact hd
  obtain ⟨p1, p2, p3, p4, p5⟩ := all_split (a := a) (b := [d])
  obtain ⟨q1, q2, q3, q4, q5⟩ := all_split (a := a ++ [d]) (b := b)
  refine ⟨?_, ?_, ?_, ?_, ?_⟩
  · simp only [PyData.canLay0, q1, p1, a1, b1, c1]
    rfl
  · simp only [PyData.depth]
    omega
  · simp only [PyData.showable, q2, p2, a3, b3, c3]
    rfl
  · simp only [PyData.intsShort, q3, p3, a4, b4, c4]
    rfl
  · simp only [PyData.weight, q4, p4]
    simp only [List.length_singleton] at c5
    omega
theorem sm_pair {x y : PyData} (hx : Sm 101 0 x) (hy : Sm 101 0 y) : Sm 10000 3 (.tuple [x, y]) := by
  have h := small_tup (ds := [x, y]) (w := 101) (j := 0) fun z hz => by
    rcases List.mem_cons.mp hz with rfl | hz
    · exact hx
    · rw [List.mem_singleton.mp hz]; exact hy
  exact h.le (show 2 * (101 + 1) ≤ 10000 by decide) (by decide)
theorem sm_sml {v : Int} (h : v.natAbs < 1000) : Sm 101 0 (.int v) := sm_int (Nat.lt_trans h (by decide))
theorem sm_tie {n : Nat} {u : Tie} (hn : n ≤ 7) (hu : u.1 < n ∧ u.2 < n) : Sm 204 1 (tieN u) := by
  have h := small_tup (ds := [.int (u.1 : Nat), .int (u.2 : Nat)]) (w := 101) (j := 0) fun z hz => by
    rcases List.mem_cons.mp hz with rfl | hz
    · exact sm_sml (by omega)
    · rw [List.mem_singleton.mp hz]; exact sm_sml (by omega)
  exact h.le (show 2 * (101 + 1) ≤ 204 by decide) (by decide)
def badsN (n : Nat) (far : Int) : List PyData := [.tuple [.int 0, .int (n : Int)], .tuple [.int (n : Int), .int 0], .tuple [.int (-1), .int 0], .tuple [.int 0, .int (-1 - far)], .tuple [.int 0], .tuple [.int 0, .int 0, .int 0], .list [.int 0, .int 0], .none, .tuple [.bool true, .int 0], .tuple [.int 0, .bool false],
  .tuple [.int 0, .str "0"], .int 5, .str "00", .tuple [.int ((n : Int) + far), .int 0]]
theorem sm_str0 : Sm 101 0 (.str "0") := ⟨by decide +kernel, Nat.zero_le _, rfl, rfl, by decide +kernel⟩
theorem bad_one {n : Nat} {far : Int} (h1 : 1 ≤ n) (h7 : n ≤ 7) (h0 : 0 ≤ far) (hf : far < 10 ^ 20) : ∀ d ∈ badsN n far, tokOf d = none ∧ g__is_tie [.int (n : Int), d] = some (.bool false, false) ∧ Sm 10000 3 d := by
  have two : ∀ {x y : PyData}, Plain x → Plain y → (inR 0 ((n : Int) - 1) x && inR 0 ((n : Int) - 1) y) = false → g__is_tie [.int (n : Int), .tuple [x, y]] = some (.bool false, false) := fun {x y} hx hy hb => by rw [is_tie_two hx hy, hb]
  have ir : ∀ v : Int, (v < 0 ∨ (n : Int) ≤ v) → inR 0 ((n : Int) - 1) (.int v) = false := fun v hv => by
    show (decide (0 ≤ v) && decide (v ≤ (n : Int) - 1)) = false
    rw [Bool.and_eq_false_iff]
    rcases hv with hv | hv
    · exact .inl (decide_eq_false (by omega))
    · exact .inr (decide_eq_false (by omega))
  have big : ∀ v : Int, v.natAbs < 1000000000000000000000000 → v.natAbs < 10 ^ 30 := fun v h => Nat.lt_trans h (by decide)
  have hf' : far < 100000000000000000000 := Int.lt_of_lt_of_le hf (by decide)
  intro d hd
  unfold badsN at hd
  simp only [List.mem_cons, List.not_mem_nil, or_false] at hd
  rcases hd with rfl | rfl | rfl | rfl | rfl | rfl | rfl | rfl | rfl | rfl | rfl | rfl | rfl | rfl
  · exact ⟨rfl, two (plain_int _) (plain_int _) (by rw [ir (n : Int) (.inr (Int.le_refl _)), Bool.and_false]), sm_pair (sm_sml (by decide)) (sm_sml (by omega))⟩
  · exact ⟨rfl, two (plain_int _) (plain_int _) (by rw [ir (n : Int) (.inr (Int.le_refl _)), Bool.false_and]), sm_pair (sm_sml (by omega)) (sm_sml (by decide))⟩
  · exact ⟨rfl, two (plain_int _) (plain_int _) (by rw [ir (-1) (.inl (by decide)), Bool.false_and]), sm_pair (sm_sml (by decide)) (sm_sml (by decide))⟩
  · exact ⟨rfl, two (plain_int _) (plain_int _) (by rw [ir (-1 - far) (.inl (by omega)), Bool.and_false]), sm_pair (sm_sml (by decide)) (sm_int (big _ (by omega)))⟩
  · exact ⟨rfl, is_tie_len (by decide), (small_tup (ds := [.int 0]) (w := 101) (j := 0) fun z hz => by rw [List.mem_singleton.mp hz]; exact sm_sml (by decide)).le (by decide) (by decide)⟩
  · exact ⟨rfl, is_tie_len (by decide), (small_tup (ds := [.int 0, .int 0, .int 0]) (w := 101) (j := 0) fun z hz => by
      have : z = .int 0 := by simpa using hz
      rw [this]; exact sm_sml (by decide)).le (by decide) (by decide)⟩
  · exact ⟨rfl, is_tie_no (T := "list") rfl rfl (by decide), (small_list (ds := [.int 0, .int 0]) (w := 101) (j := 0) fun z hz => by
      have : z = .int 0 := by simpa using hz
      rw [this]; exact sm_sml (by decide)).le (by decide) (by decide)⟩
  · exact ⟨rfl, is_tie_no (T := "NoneType") rfl rfl (by decide), sm_none.le (by decide) (by decide)⟩
  · exact ⟨rfl, two ⟨rfl, "bool", rfl⟩ (plain_int _) rfl, sm_pair ((sm_bool _).le (by decide) (by decide)) (sm_sml (by decide))⟩
  · exact ⟨rfl, two (plain_int _) ⟨rfl, "bool", rfl⟩ (Bool.and_false _), sm_pair (sm_sml (by decide)) ((sm_bool _).le (by decide) (by decide))⟩
  · exact ⟨rfl, two (plain_int _) ⟨rfl, "str", rfl⟩ (Bool.and_false _), sm_pair (sm_sml (by decide)) sm_str0⟩
  · exact ⟨rfl, is_tie_no (T := "int") rfl rfl (by decide), (sm_sml (by decide)).le (by decide) (by decide)⟩
  · exact ⟨rfl, is_tie_no (T := "str") rfl rfl (by decide), ⟨by decide +kernel, Nat.zero_le _, rfl, rfl, by decide +kernel⟩⟩
  · exact ⟨rfl, two (plain_int _) (plain_int _) (by rw [ir ((n : Int) + far) (.inr (by omega)), Bool.false_and]), sm_pair (sm_int (big _ (by omega))) (sm_sml (by decide))⟩
theorem pow20 : (10 : Int) ^ (20 : Int).toNat = 10 ^ 20 := rfl
theorem g_badtie {n : Nat} {c : Int} (h1 : 1 ≤ n) (h7 : n ≤ 7) (h0 : 0 ≤ c) : ∃ d, g__law_bad_tie [.int c, .int (n : Int)] = some (d, false) ∧ tokOf d = none ∧ g__is_tie [.int (n : Int), d] = some (.bool false, false) ∧ Sm 10000 3 d := by
  obtain ⟨far, hfar, hf0, hf1⟩ : ∃ far, c / 14 % 10 ^ (20 : Int).toNat = far ∧ 0 ≤ far ∧ far < 10 ^ 20 := ⟨_, rfl, Int.emod_nonneg _ (by decide), Int.emod_lt_of_pos _ (by decide)⟩
  obtain ⟨d, hd⟩ : ∃ d, (badsN n far)[(c % 14).toNat]? = some d := ⟨_, List.getElem?_eq_getElem (show (c % 14).toNat < 14 by omega)⟩
  have hat := atI_nat hd
  rw [Int.toNat_of_nonneg (by omega)] at hat
  refine ⟨d, ?_, bad_one h1 h7 hf0 hf1 d (List.mem_of_getElem? hd)⟩
  refine g_of (f := f__law_bad_tie) rfl rfl ?_
  show f__law_bad_tie [some (.int c, false), some (.int (n : Int), false), none, none] = _
  refine w_seq (w_set' (v_bin (v_of (v_bin (v_w rfl rfl) v_wc (g_div (by decide)))) (v_of (v_bin v_wc v_wc (g_pow (by decide)))) (g_mod (by decide))) rfl) ?_
  rw [hfar]
  have hL := v_lst (env := [some (.int c, false), some (.int (n : Int), false), some (.int far, false), none])
    (v_ac (v_tup (v_ac (v_c (d := .int 0)) (v_ac (v_s (i := 1) rfl rfl) v_an)) (le1000 rfl))
    (v_ac (v_tup (v_ac (v_s (i := 1) rfl rfl) (v_ac (v_c (d := .int 0)) v_an)) (le1000 rfl))
    (v_ac (v_tup (v_ac (v_neg (v_c (d := .int 1))) (v_ac (v_c (d := .int 0)) v_an)) (le1000 rfl))
    (v_ac (v_tup (v_ac (v_c (d := .int 0)) (v_ac (v_bin (v_of (v_neg (v_c (d := .int 1)))) (v_w (i := 2) rfl rfl) g_sub) v_an)) (le1000 rfl))
    (v_ac (v_tup (v_ac (v_c (d := .int 0)) v_an) (le1000 rfl))
    (v_ac (v_tup (v_ac (v_c (d := .int 0)) (v_ac (v_c (d := .int 0)) (v_ac (v_c (d := .int 0)) v_an))) (le1000 rfl))
    (v_ac (v_lst (v_ac (v_c (d := .int 0)) (v_ac (v_c (d := .int 0)) v_an)) (le1000 rfl))
    (v_ac (v_c (d := .none))
    (v_ac (v_tup (v_ac (v_c (d := .bool true)) (v_ac (v_c (d := .int 0)) v_an)) (le1000 rfl))
    (v_ac (v_tup (v_ac (v_c (d := .int 0)) (v_ac (v_c (d := .bool false)) v_an)) (le1000 rfl)) v_an)))))))))) (le1000 rfl)
  refine w_seq (w_set' hL rfl) ?_
  have hM := fun o => v_lst (env := [some (.int c, false), some (.int (n : Int), false), some (.int far, false), o])
    (v_ac (v_tup (v_ac (v_c (d := .int 0)) (v_ac (v_c (d := .str "0")) v_an)) (le1000 rfl))
    (v_ac (v_c (d := .int 5)) (v_ac (v_c (d := .str "00"))
    (v_ac (v_tup (v_ac (v_bin (v_w (i := 1) rfl rfl) (v_w (i := 2) rfl rfl) g_add) (v_ac (v_c (d := .int 0)) v_an)) (le1000 rfl)) v_an)))) (le1000 rfl)
  exact w_ret (v_bin (v_of (v_bin (v_w rfl rfl) (v_of (hM _)) (g_addL (show (10 : Nat) + 4 ≤ 1000 by decide)))) (v_of (v_bin (v_w rfl rfl) v_wc (g_mod (by decide)))) (g_ixL hat))
section
variable {n : Nat} {ts : List Tie} (h1 : 1 ≤ n) (h7 : n ≤ 7) (hv : TiesN n ts) (hl : ts.length ≤ 16)
include h1 h7 hv hl
theorem sm_ties : ∀ x ∈ ts.map tieN, Sm 204 1 x := fun x hx => by
  obtain ⟨u, hu, rfl⟩ := List.mem_map.mp hx
  exact sm_tie h7 (hv u hu)
theorem sm_net : Sm 10000 3 (.list (ts.map tieN)) := (small_list (sm_ties h1 h7 hv hl)).le (by
  rw [List.length_map]
  have := Nat.mul_le_mul hl (Nat.le_refl (204 + 1))
  omega) (by decide)
theorem sm_n : Sm 10000 3 (.int (n : Int)) := (sm_sml (by omega)).le (by decide) (by decide)
/-- a tie of it spoilt -/
theorem bad_cut {d : PyData} (lo hi : Option Int) (ht : tokOf d = none) (hd : g__is_tie [.int (n : Int), d] = some (.bool false, false)) (hs : Sm 10000 3 d) : BadP (.int (n : Int)) (.list (cutA (ts.map tieN) none lo ++ [d] ++ cutA (ts.map tieN) hi none)) := by
  have e : cutA (ts.map tieN) none lo ++ [d] ++ cutA (ts.map tieN) hi none = (cutA ts none lo).map tieN ++ d :: cutA (ts.map tieN) hi none := by rw [cutA_map, List.append_assoc]; rfl
  refine ⟨rfl, rfl, ?_, ?_⟩
  · rw [e]
    exact bad_tie h1 h7 (fun u hu => hv u (cutA_sub hu)) ht hd
  · have hl1 := cutA_short (ts.map tieN) none lo
    have hl2 := cutA_short (ts.map tieN) hi none
    rw [List.length_map] at hl1 hl2
    exact smT (sm_sml (by omega)) (sm_between (fun x hx => sm_ties h1 h7 hv hl x (cutA_sub hx)) hs (fun x hx => sm_ties h1 h7 hv hl x (cutA_sub hx)) (by omega))
end
end Kx
namespace Kx
open PySem PySem.Spec PyProof.Rows L2 Evl Fw
local macro_rules | `(tactic| walk_at "side") => `(tactic| first | rfl | decide | omega | assumption | (simp only [List.length_cons, List.length_nil]; omega))
local macro_rules | `(tactic| walk_at "opv") => `(tactic| first
  | ((with_reducible apply y_add); rfl; rfl) | ((with_reducible apply y_sub); rfl; rfl) | ((with_reducible apply y_lt); rfl; rfl) | ((with_reducible apply y_le); rfl; rfl)
  | ((with_reducible apply y_gt); rfl; rfl) | ((with_reducible apply y_ge); rfl; rfl) | ((with_reducible apply y_eq); rfl; rfl) | ((with_reducible apply y_ne); rfl; rfl)
  | ((with_reducible apply y_mod); walk_at "side"; rfl; rfl) | ((with_reducible apply y_div); walk_at "side"; rfl; rfl) | ((with_reducible apply y_mulr); walk_at "side"; rfl; rfl) | ((with_reducible apply y_mull); walk_at "side"; rfl; rfl)
  | with_reducible assumption | assumption | rfl)
local macro_rules | `(tactic| walk_at "ev") => `(tactic| first
  | ((with_reducible apply x_wc); rfl; rfl)
  | ((with_reducible apply x_wt); rfl; rfl; rfl)
  | ((with_reducible apply x_w); rfl; (first | rfl | assumption); rfl)
  | ((with_reducible apply x_s); rfl; (first | rfl | assumption); rfl; rfl)
  | ((with_reducible apply x_o); rfl; rfl; rfl; rfl)
  | ((with_reducible apply x_c); rfl; rfl; rfl)
  | ((with_reducible apply x_an); rfl; rfl)
  | ((with_reducible apply x_on); rfl; rfl)
  | ((with_reducible apply v_of); walk_at "ev")
  | ((with_reducible apply v_bin); walk_at "ev"; walk_at "ev"; walk_at "opv")
  | ((with_reducible apply v_ac); walk_at "ev"; walk_at "ev")
  | ((with_reducible apply v_bc); walk_at "ev"; walk_at "ev")
  | ((with_reducible apply v_call); walk_at "ev"; first | with_reducible assumption | assumption | rfl)
  | ((with_reducible apply v_callB); walk_at "ev"; first | with_reducible assumption | assumption | rfl)
  | ((with_reducible apply x_tup); walk_at "ev"; walk_at "side"; rfl; rfl)
  | ((with_reducible apply x_lst); walk_at "ev"; walk_at "side"; rfl; rfl)
  | ((with_reducible apply v_tst); walk_at "ev")
  | ((with_reducible apply v_neg); walk_at "ev")
  | ((with_reducible apply v_ir1); walk_at "ev"; walk_at "side")
  | ((with_reducible apply x_int); rfl; rfl; rfl) | ((with_reducible apply x_ins); rfl; rfl; rfl) | ((with_reducible apply x_ino); rfl; rfl; rfl)
  | ((with_reducible apply v_il); walk_at "ev")
  | ((with_reducible apply v_ilw); walk_at "ev")
  | ((with_reducible apply v_oy); walk_at "ev")
  | ((with_reducible apply x_m); rfl; rfl; rfl))
def manyS (x : Int) : List PyData := [.int 0, .int 8, .int (-1), .bool true, .none, .str "3", .int (8 + x), .list [.int 3], .tuple [.int 3]]
theorem many_bad {x : Int} (h0 : 0 ≤ x) (hx : x < 10 ^ 20) : ∀ d ∈ manyS x, Plain d ∧ inR 1 7 d = false ∧ Sm 10000 3 d := by
  have hx' : x < 100000000000000000000 := Int.lt_of_lt_of_le hx (by decide)
  have big : ∀ v : Int, v.natAbs < 1000000000000000000000000 → v.natAbs < 10 ^ 30 := fun v h => Nat.lt_trans h (by decide)
  intro d hd
  unfold manyS at hd
  simp only [List.mem_cons, List.not_mem_nil, or_false] at hd
  rcases hd with rfl | rfl | rfl | rfl | rfl | rfl | rfl | rfl | rfl
  · exact ⟨plain_int _, rfl, (sm_sml (by decide)).le (by decide) (by decide)⟩
  · exact ⟨plain_int _, rfl, (sm_sml (by decide)).le (by decide) (by decide)⟩
  · exact ⟨plain_int _, rfl, (sm_sml (by decide)).le (by decide) (by decide)⟩
  · exact ⟨⟨rfl, "bool", rfl⟩, rfl, (sm_bool _).le (by decide) (by decide)⟩
  · exact ⟨⟨rfl, "NoneType", rfl⟩, rfl, sm_none.le (by decide) (by decide)⟩
  · exact ⟨⟨rfl, "str", rfl⟩, rfl, ⟨by decide +kernel, Nat.zero_le _, rfl, rfl, by decide +kernel⟩⟩
  · refine ⟨plain_int _, ?_, (sm_int (big _ (by omega))).le (by decide) (by decide)⟩
    show (decide ((1 : Int) ≤ 8 + x) && decide (8 + x ≤ 7)) = false
    rw [decide_eq_false (show ¬ 8 + x ≤ 7 by omega), Bool.and_false]
  · exact ⟨⟨rfl, "list", rfl⟩, rfl, (small_list (ds := [.int 3]) (w := 101) (j := 0) fun z hz => by rw [List.mem_singleton.mp hz]; exact sm_sml (by decide)).le (by decide) (by decide)⟩
  · exact ⟨⟨rfl, "tuple", rfl⟩, rfl, (small_tup (ds := [.int 3]) (w := 101) (j := 0) fun z hz => by rw [List.mem_singleton.mp hz]; exact sm_sml (by decide)).le (by decide) (by decide)⟩
section
variable {n : Nat} {ts : List Tie} (h1 : 1 ≤ n) (h7 : n ≤ 7) (hv : TiesN n ts) (hl : ts.length ≤ 16)
include h1 h7 hv hl
theorem bad_of_many {m : PyData} {x : Int} (h0 : 0 ≤ x) (hx : x < 10 ^ 20) (hm : m ∈ manyS x) : ∀ t ∈ ([.list [], .list (ts.map tieN)] : List PyData), BadP m t := by
  obtain ⟨p1, p2, p3⟩ := many_bad h0 hx m hm
  intro t ht
  simp only [List.mem_cons, List.not_mem_nil, or_false] at ht
  rcases ht with rfl | rfl
  · exact ⟨p1.1, rfl, bad_many p1 p2 rfl, sm_two p3 ⟨rfl, by decide, rfl, rfl, by decide⟩⟩
  · exact ⟨p1.1, rfl, bad_many p1 p2 rfl, sm_two p3 (sm_net h1 h7 hv hl)⟩
theorem bad_of_kind : ∀ t ∈ ([.none, .int 5, .tuple (ts.map tieN), .dict [], .str ""] : List PyData), BadP (.int (n : Int)) t := by
  have hn := sm_n h1 h7 hv hl
  intro t ht
  simp only [List.mem_cons, List.not_mem_nil, or_false] at ht
  rcases ht with rfl | rfl | rfl | rfl | rfl
  · exact ⟨rfl, rfl, bad_kind h1 h7 (T := "NoneType") rfl rfl (by decide), sm_two hn (sm_none.le (by decide) (by decide))⟩
  · exact ⟨rfl, rfl, bad_kind h1 h7 (T := "int") rfl rfl (by decide), sm_two hn ((sm_sml (by decide)).le (by decide) (by decide))⟩
  · exact ⟨rfl, rfl, bad_kind h1 h7 (T := "tuple") rfl rfl (by decide), sm_two hn ((small_tup (sm_ties h1 h7 hv hl)).le (by
      rw [List.length_map]
      have := Nat.mul_le_mul hl (Nat.le_refl (204 + 1))
      omega) (by decide))⟩
  · refine ⟨rfl, rfl, bad_kind h1 h7 (T := "dict") rfl rfl (by decide), ?_⟩
    have : pairD (.tuple [.int (n : Int), .dict []]) = true := decide_eq_true (by omega)
    rw [this, Bool.or_true]
  · exact ⟨rfl, rfl, bad_kind h1 h7 (T := "str") rfl rfl (by decide), sm_two hn ⟨by decide +kernel, Nat.zero_le _, rfl, rfl, by decide +kernel⟩⟩
theorem bad_of_long : BadP (.int (n : Int)) (.list (List.replicate (17 : Int).toNat ([.tuple [.int 0, .int 0]] : List PyData)).flatten) := by
  refine ⟨rfl, rfl, bad_long h1 h7 (by decide), sm_two (sm_n h1 h7 hv hl) ?_⟩
  refine (small_list (ds := (List.replicate (17 : Int).toNat ([.tuple [.int 0, .int 0]] : List PyData)).flatten) (w := 204) (j := 1) fun x hx => ?_).le (by decide) (by decide)
  obtain ⟨l, hl, hx⟩ := List.mem_flatten.mp hx
  rw [List.eq_of_mem_replicate hl] at hx
  rw [List.mem_singleton.mp hx]
  exact sm_tie (n := 1) (u := (0, 0)) (by decide) (by decide)
theorem g_spoilt {way c : Int} (h0 : 0 ≤ c) : ∃ m t, g__law_spoilt [.int (n : Int), .list (ts.map tieN), .int way, .int c] = some (.tuple [m, t], false) ∧ BadP m t := by
  have st : ∀ {m t : PyData}, f__law_spoilt [some (.int (n : Int), false), some (.list (ts.map tieN), false), some (.int way, false), some (.int c, false), none, none] = .rt (.tuple [m, t]) false → BadP m t → ∃ m t, g__law_spoilt [.int (n : Int), .list (ts.map tieN), .int way, .int c] = some (.tuple [m, t], false) ∧ BadP m t := fun {m t} h hb =>
    ⟨m, t, g_of (f := f__law_spoilt) rfl rfl h, hb⟩
  have tst : ∀ (k : Int), tstE (eBin gEq (wVar 2) (wOf (eC (.int k)))) [some (.int (n : Int), false), some (.list (ts.map tieN), false), some (.int way, false), some (.int c, false), none, none] = some (decide (way = k), [some (.int (n : Int), false), some (.list (ts.map tieN), false), some (.int way, false), some (.int c, false), none, none]) := fun k => v_tst (v_bin (v_w rfl rfl) v_wc g_eq)
  by_cases w0 : way = 0
  · obtain ⟨x, hx, hx0, hx1⟩ : ∃ x, c / 18 % 10 ^ (20 : Int).toNat = x ∧ 0 ≤ x ∧ x < 10 ^ 20 := ⟨_, rfl, Int.emod_nonneg _ (by decide), Int.emod_lt_of_pos _ (by decide)⟩
    obtain ⟨m, hm⟩ : ∃ d, (manyS x)[(c % 9).toNat]? = some d := ⟨_, List.getElem?_eq_getElem (show (c % 9).toNat < 9 by omega)⟩
    have hatm := atI_nat hm
    rw [Int.toNat_of_nonneg (by omega)] at hatm
    obtain ⟨t, ht⟩ : ∃ d, ([.list [], .list (ts.map tieN)] : List PyData)[(c / 9 % 2).toNat]? = some d := ⟨_, List.getElem?_eq_getElem (show (c / 9 % 2).toNat < 2 by omega)⟩
    have hatt := atI_nat ht
    rw [Int.toNat_of_nonneg (by omega)] at hatt
    have hB := bad_of_many h1 h7 hv hl hx0 hx1 (List.mem_of_getElem? hm) t (List.mem_of_getElem? ht)
    refine st (m := m) (t := t) ?_ hB
    have hadd : gAdd (.int 8) (.int (c / 18 % 10 ^ (20 : Int).toNat)) = some (.int (8 + x), false) := by rw [g_add, hx]
    have hL := v_lst (env := [some (.int (n : Int), false), some (.list (ts.map tieN), false), some (.int way, false), some (.int c, false), none, none])
      (v_ac (v_c (d := .int 0)) (v_ac (v_c (d := .int 8)) (v_ac (v_neg (v_c (d := .int 1))) (v_ac (v_c (d := .bool true)) (v_ac (v_c (d := .none)) (v_ac (v_c (d := .str "3")) (v_ac (v_bin (v_of (v_c (d := .int 8))) (v_of (v_bin (v_of (v_bin (v_w (i := 3) rfl rfl) (v_of (v_c (d := .int 18))) (g_div (by decide)))) (v_of (v_bin (v_of (v_c (d := .int 10))) (v_of (v_c (d := .int 20))) (g_pow (by decide)))) (g_mod (by decide)))) hadd)
      (v_ac (v_lst (v_ac (v_c (d := .int 3)) v_an) (le1000 rfl)) (v_ac (v_tup (v_ac (v_c (d := .int 3)) v_an) (le1000 rfl)) v_an))))))))) (le1000 rfl)
    refine w_seqr (w_ift (tst 0) (decide_eq_true w0) ?_)
    refine w_seq (w_set' hL rfl) ?_
    exact w_ret (v_tup (v_ac (v_bin (v_w rfl rfl) (v_of (v_bin (v_w rfl rfl) v_wc (g_mod (by decide)))) (g_ixL hatm)) (v_ac (v_bin (v_of (v_lst (v_ac (v_lst v_an (le1000 rfl)) (v_ac (v_s rfl rfl) v_an)) (le1000 rfl))) (v_of (v_bin (v_of (v_bin (v_w rfl rfl) v_wc (g_div (by decide)))) v_wc (g_mod (by decide)))) (g_ixL hatt)) v_an)) (le1000 rfl))
  · by_cases w1 : way = 1
    · obtain ⟨t, ht⟩ : ∃ d, ([.none, .int 5, .tuple (ts.map tieN), .dict [], .str ""] : List PyData)[(c % 5).toNat]? = some d := ⟨_, List.getElem?_eq_getElem (show (c % 5).toNat < 5 by omega)⟩
      have hatt := atI_nat ht
      rw [Int.toNat_of_nonneg (by omega)] at hatt
      refine st (m := .int (n : Int)) (t := t) ?_ (bad_of_kind h1 h7 hv hl t (List.mem_of_getElem? ht))
      refine w_seq (w_iff (tst 0) (decide_eq_false w0) rfl) ?_
      exact w_seqr (w_ift (tst 1) (decide_eq_true w1) (w_ret (v_tup (v_ac (v_s rfl rfl) (v_ac (v_bin (v_of (v_lst (v_ac v_c (v_ac v_c (v_ac (v_callB (v_bc (v_w (i := 1) (d := .list (ts.map tieN)) rfl rfl) v_an) (rfl : gTuple [.list (ts.map tieN)] = _)) (v_ac v_dict0 (v_ac v_c v_an))))) (le1000 rfl))) (v_of (v_bin (v_w rfl rfl) v_wc (g_mod (by decide)))) (g_ixL hatt)) v_an)) (le1000 rfl))))
    · by_cases w2 : way = 2
      · refine st (m := .int (n : Int)) (t := .list (List.replicate (17 : Int).toNat ([.tuple [.int 0, .int 0]] : List PyData)).flatten) ?_ (bad_of_long h1 h7 hv hl)
        refine w_seq (w_iff (tst 0) (decide_eq_false w0) rfl) ?_
        refine w_seq (w_iff (tst 1) (decide_eq_false w1) rfl) ?_
        have hmul : gMul (.list [.tuple [.int 0, .int 0]]) (.int 17) = some (.list (List.replicate (17 : Int).toNat ([.tuple [.int 0, .int 0]] : List PyData)).flatten, true) := by
          show (if -(2^63) ≤ (17:Int) ∧ (17:Int) < 2^63 ∧ ([.tuple [.int 0, .int 0]] : List PyData).length * (17:Int).toNat ≤ 1000 then some (PyData.list (List.replicate (17 : Int).toNat ([.tuple [.int 0, .int 0]] : List PyData)).flatten, true) else none) = _
          rw [if_pos (by decide)]
        exact w_seqr (w_ift (tst 2) (decide_eq_true w2) (w_ret (v_tup (v_ac (v_s rfl rfl) (v_ac (v_bin (v_of (v_lst (v_ac (v_tup (v_ac v_c (v_ac v_c v_an)) (le1000 rfl)) v_an) (le1000 rfl))) v_wc hmul) v_an)) (le1000 rfl))))
      · obtain ⟨d, hd, dt, db, ds⟩ := g_badtie (n := n) (c := c) h1 h7 h0
        have hlenT : ((ts.map tieN).length : Int) = ts.length := by rw [List.length_map]
        obtain ⟨a, ha⟩ : ∃ a, c / 14 % (((ts.map tieN).length : Int) + 1) = a := ⟨_, rfl⟩
        have s1 := cutA_short (ts.map tieN) none (some a)
        have s2 := cutA_short (ts.map tieN) (some a) none
        rw [List.length_map] at s1 s2
        refine st (m := .int (n : Int)) (t := .list (cutA (ts.map tieN) none (some a) ++ [d] ++ cutA (ts.map tieN) (some a) none)) ?_ (bad_cut h1 h7 hv hl (some a) (some a) dt db ds)
        refine w_seq (w_iff (tst 0) (decide_eq_false w0) rfl) ?_
        refine w_seq (w_iff (tst 1) (decide_eq_false w1) rfl) ?_
        refine w_seq (w_iff (tst 2) (decide_eq_false w2) rfl) ?_
        refine w_seq (w_set' (v_bin (v_of (v_bin (v_w rfl rfl) v_wc (g_div (by decide)))) (v_of (v_bin (v_of (v_callB (v_bc (v_w rfl rfl) v_an) rfl)) v_wc g_add)) (g_mod (by omega))) rfl) ?_
        rw [ha]
        exact w_ret (v_tup (v_ac (v_s rfl rfl) (v_ac (v_bin (v_of (v_bin (v_of (v_slL (v_w rfl rfl) v_on (v_oy (v_w rfl rfl)))) (v_of (v_lst (v_ac (v_call (v_bc (v_w rfl rfl) (v_bc (v_w rfl rfl) v_an)) hd) v_an) (le1000 rfl))) (g_addL (by rw [List.length_singleton]; omega)))) (v_of (v_slL (v_w rfl rfl) (v_oy (v_w rfl rfl)) v_on)) (g_addL (by rw [List.length_append, List.length_singleton]; omega))) v_an)) (le1000 rfl))
end
end Kx
namespace Kx
open PySem PySem.Spec PyProof.Rows L2 Evl Fw
def topS (i : Nat) : Stmt := PySem.Challenge.pw_treetally_k02_what_is_no_net.main.body.getD i (.Pass ⟨0, 0, 0, 0⟩)
abbrev s_is_whole : Stmt := topS 12
def N_is_whole : List Str := ["value", "least", "most"]
theorem sc_is_whole : FnScope N_is_whole ["value", "least", "most"] (defScope s_is_whole) := ⟨rfl, rfl, rfl, by decide +kernel, rfl, by decide +kernel, by decide +kernel⟩
abbrev s__is_tie : Stmt := topS 18
def N__is_tie : List Str := ["many", "tie"]
theorem sc__is_tie : FnScope N__is_tie ["many", "tie"] (defScope s__is_tie) := ⟨rfl, rfl, rfl, by decide +kernel, rfl, by decide +kernel, by decide +kernel⟩
abbrev s_need_net : Stmt := topS 13
def N_need_net : List Str := ["many", "ties", "tie"]
theorem sc_need_net : FnScope N_need_net ["many", "ties"] (defScope s_need_net) := ⟨rfl, rfl, rfl, by decide +kernel, rfl, by decide +kernel, by decide +kernel⟩
abbrev s_parts_of : Stmt := topS 14
def N_parts_of : List Str := ["many", "ties", "leasts", "starts", "one", "other", "low", "high", "place", "start", "least"]
theorem sc_parts_of : FnScope N_parts_of ["many", "ties"] (defScope s_parts_of) := ⟨rfl, rfl, rfl, by decide +kernel, rfl, by decide +kernel, by decide +kernel⟩
abbrev s_hangs : Stmt := topS 15
def N_hangs : List Str := ["many", "ties"]
theorem sc_hangs : FnScope N_hangs ["many", "ties"] (defScope s_hangs) := ⟨rfl, rfl, rfl, by decide +kernel, rfl, by decide +kernel, by decide +kernel⟩
abbrev s__need_tie : Stmt := topS 19
def N__need_tie : List Str := ["many", "ties", "tie"]
theorem sc__need_tie : FnScope N__need_tie ["many", "ties", "tie"] (defScope s__need_tie) := ⟨rfl, rfl, rfl, by decide +kernel, rfl, by decide +kernel, by decide +kernel⟩
abbrev s_net_without : Stmt := topS 16
def N_net_without : List Str := ["many", "ties", "tie"]
theorem sc_net_without : FnScope N_net_without ["many", "ties", "tie"] (defScope s_net_without) := ⟨rfl, rfl, rfl, by decide +kernel, rfl, by decide +kernel, by decide +kernel⟩
abbrev s_net_together : Stmt := topS 17
def N_net_together : List Str := ["many", "ties", "tie", "rest", "low", "high", "one", "other"]
theorem sc_net_together : FnScope N_net_together ["many", "ties", "tie"] (defScope s_net_together) := ⟨rfl, rfl, rfl, by decide +kernel, rfl, by decide +kernel, by decide +kernel⟩
abbrev s__moved : Stmt := topS 20
def N__moved : List Str := ["place", "low", "high"]
theorem sc__moved : FnScope N__moved ["place", "low", "high"] (defScope s__moved) := ⟨rfl, rfl, rfl, by decide +kernel, rfl, by decide +kernel, by decide +kernel⟩
abbrev s__worth_by_first_row : Stmt := topS 24
def N__worth_by_first_row : List Str := ["rows", "places", "known", "first", "worth", "at", "place", "rest", "share"]
theorem sc__worth_by_first_row : FnScope N__worth_by_first_row ["rows", "places", "known"] (defScope s__worth_by_first_row) := ⟨rfl, rfl, rfl, by decide +kernel, rfl, by decide +kernel, by decide +kernel⟩
abbrev s__worth_of_rest : Stmt := topS 23
def N__worth_of_rest : List Str := ["rows", "places", "known"]
theorem sc__worth_of_rest : FnScope N__worth_of_rest ["rows", "places", "known"] (defScope s__worth_of_rest) := ⟨rfl, rfl, rfl, by decide +kernel, rfl, by decide +kernel, by decide +kernel⟩
abbrev s_worth_of : Stmt := topS 22
def N_worth_of : List Str := ["rows"]
theorem sc_worth_of : FnScope N_worth_of ["rows"] (defScope s_worth_of) := ⟨rfl, rfl, rfl, by decide +kernel, rfl, by decide +kernel, by decide +kernel⟩
abbrev s_table_of : Stmt := topS 26
def N_table_of : List Str := ["many", "ties", "table", "one", "other", "_"]
theorem sc_table_of : FnScope N_table_of ["many", "ties"] (defScope s_table_of) := ⟨rfl, rfl, rfl, by decide +kernel, rfl, by decide +kernel, by decide +kernel⟩
abbrev s_tally : Stmt := topS 27
def N_tally : List Str := ["many", "ties", "table", "row"]
theorem sc_tally : FnScope N_tally ["many", "ties"] (defScope s_tally) := ⟨rfl, rfl, rfl, by decide +kernel, rfl, by decide +kernel, by decide +kernel⟩
abbrev s_tally_with : Stmt := topS 28
def N_tally_with : List Str := ["many", "ties", "tie", "one", "other", "fewer", "drawn"]
theorem sc_tally_with : FnScope N_tally_with ["many", "ties", "tie"] (defScope s_tally_with) := ⟨rfl, rfl, rfl, by decide +kernel, rfl, by decide +kernel, by decide +kernel⟩
abbrev s_is_hanging : Stmt := topS 30
def N_is_hanging : List Str := ["many", "ties", "some", "least", "tie"]
theorem sc_is_hanging : FnScope N_is_hanging ["many", "ties", "some"] (defScope s_is_hanging) := ⟨rfl, rfl, rfl, by decide +kernel, rfl, by decide +kernel, by decide +kernel⟩
abbrev s_all_hangings : Stmt := topS 31
def N_all_hangings : List Str := ["many", "ties", "most", "some"]
theorem sc_all_hangings : FnScope N_all_hangings ["many", "ties", "most"] (defScope s_all_hangings) := ⟨rfl, rfl, rfl, by decide +kernel, rfl, by decide +kernel, by decide +kernel⟩
abbrev s__joins : Stmt := topS 32
def N__joins : List Str := ["many", "ties", "some", "tie"]
theorem sc__joins : FnScope N__joins ["many", "ties", "some"] (defScope s__joins) := ⟨rfl, rfl, rfl, by decide +kernel, rfl, by decide +kernel, by decide +kernel⟩
abbrev s__rising_lists : Stmt := topS 33
def N__rising_lists : List Str := ["count", "size", "some"]
theorem sc__rising_lists : FnScope N__rising_lists ["count", "size"] (defScope s__rising_lists) := ⟨rfl, rfl, rfl, by decide +kernel, rfl, by decide +kernel, by decide +kernel⟩
abbrev s_hanging_of : Stmt := topS 35
def N_hanging_of : List Str := ["many", "ties", "number", "some", "ahead", "rest", "tie", "share"]
theorem sc_hanging_of : FnScope N_hanging_of ["many", "ties", "number"] (defScope s_hanging_of) := ⟨rfl, rfl, rfl, by decide +kernel, rfl, by decide +kernel, by decide +kernel⟩
abbrev s_number_of : Stmt := topS 36
def N_number_of : List Str := ["many", "ties", "some", "number", "rest", "tie"]
theorem sc_number_of : FnScope N_number_of ["many", "ties", "some"] (defScope s_number_of) := ⟨rfl, rfl, rfl, by decide +kernel, rfl, by decide +kernel, by decide +kernel⟩
abbrev s_standing : Stmt := topS 38
def N_standing : List Str := ["many", "ties", "tie"]
theorem sc_standing : FnScope N_standing ["many", "ties"] (defScope s_standing) := ⟨rfl, rfl, rfl, by decide +kernel, rfl, by decide +kernel, by decide +kernel⟩
abbrev s_exchanges : Stmt := topS 40
def N_exchanges : List Str := ["many", "ties", "one", "other", "way", "tie"]
theorem sc_exchanges : FnScope N_exchanges ["many", "ties", "one", "other"] (defScope s_exchanges) := ⟨rfl, rfl, rfl, by decide +kernel, rfl, by decide +kernel, by decide +kernel⟩
abbrev s__exchanged : Stmt := topS 42
def N__exchanged : List Str := ["some", "old", "new", "tie"]
theorem sc__exchanged : FnScope N__exchanged ["some", "old", "new"] (defScope s__exchanged) := ⟨rfl, rfl, rfl, by decide +kernel, rfl, by decide +kernel, by decide +kernel⟩
abbrev s__with_tie : Stmt := topS 41
def N__with_tie : List Str := ["many", "ties", "some", "tie", "other", "choices", "old", "choice"]
theorem sc__with_tie : FnScope N__with_tie ["many", "ties", "some", "tie", "other"] (defScope s__with_tie) := ⟨rfl, rfl, rfl, by decide +kernel, rfl, by decide +kernel, by decide +kernel⟩
abbrev s__law_cell_at : Stmt := topS 44
def N__law_cell_at : List Str := ["_law_script", "_law_k"]
theorem sc__law_cell_at : FnScope N__law_cell_at ["_law_script", "_law_k"] (defScope s__law_cell_at) := ⟨rfl, rfl, rfl, by decide +kernel, rfl, by decide +kernel, by decide +kernel⟩
abbrev s__law_mixed : Stmt := topS 45
def N__law_mixed : List Str := ["_law_script", "_law_k"]
theorem sc__law_mixed : FnScope N__law_mixed ["_law_script", "_law_k"] (defScope s__law_mixed) := ⟨rfl, rfl, rfl, by decide +kernel, rfl, by decide +kernel, by decide +kernel⟩
abbrev s__law_tree : Stmt := topS 46
def N__law_tree : List Str := ["_law_script", "_law_many", "_law_ties", "_law_k", "_law_cell", "_law_pair"]
theorem sc__law_tree : FnScope N__law_tree ["_law_script", "_law_many"] (defScope s__law_tree) := ⟨rfl, rfl, rfl, by decide +kernel, rfl, by decide +kernel, by decide +kernel⟩
abbrev s__law_net : Stmt := topS 47
def N__law_net : List Str := ["_law_script", "_law_most", "_law_room", "_law_first", "_law_many", "_law_ties", "_law_k", "_law_turn", "_law_at", "_law_cell", "_law_one", "_law_tie", "_law_other"]
theorem sc__law_net : FnScope N__law_net ["_law_script", "_law_most", "_law_room"] (defScope s__law_net) := ⟨rfl, rfl, rfl, by decide +kernel, rfl, by decide +kernel, by decide +kernel⟩
abbrev s__law_bad_tie : Stmt := topS 48
def N__law_bad_tie : List Str := ["_law_cell", "_law_many", "_law_far", "_law_some"]
theorem sc__law_bad_tie : FnScope N__law_bad_tie ["_law_cell", "_law_many"] (defScope s__law_bad_tie) := ⟨rfl, rfl, rfl, by decide +kernel, rfl, by decide +kernel, by decide +kernel⟩
abbrev s__law_spoilt : Stmt := topS 49
def N__law_spoilt : List Str := ["_law_many", "_law_ties", "_law_way", "_law_cell", "_law_at", "_law_some"]
theorem sc__law_spoilt : FnScope N__law_spoilt ["_law_many", "_law_ties", "_law_way", "_law_cell"] (defScope s__law_spoilt) := ⟨rfl, rfl, rfl, by decide +kernel, rfl, by decide +kernel, by decide +kernel⟩
abbrev s__law_asked : Stmt := topS 50
def N__law_asked : List Str := ["_law_which", "_law_many", "_law_ties", "_law_odd"]
theorem sc__law_asked : FnScope N__law_asked ["_law_which", "_law_many", "_law_ties", "_law_odd"] (defScope s__law_asked) := ⟨rfl, rfl, rfl, by decide +kernel, rfl, by decide +kernel, by decide +kernel⟩
abbrev s__law_refused : Stmt := topS 51
def N__law_refused : List Str := ["_law_which", "_law_many", "_law_ties", "_law_odd", "_law_other", "e"]
theorem sc__law_refused : FnScope N__law_refused ["_law_which", "_law_many", "_law_ties", "_law_odd"] (defScope s__law_refused) := ⟨rfl, rfl, rfl, by decide +kernel, rfl, by decide +kernel, by decide +kernel⟩
abbrev s_law : Stmt := topS 52
def N_law : List Str := ["_law_script", "_law_cell", "_law_bad", "_law_kept", "_law_odd", "_law_which", "_law_many", "_law_ties"]
theorem sc_law : FnScope N_law ["_law_script"] (defScope s_law) := ⟨rfl, rfl, rfl, by decide +kernel, rfl, by decide +kernel, by decide +kernel⟩
end Kx
namespace Kx
open PySem PySem.Spec PyProof.Rows L2 Evl Fw
local macro_rules | `(tactic| walk_at "side") => `(tactic| first | rfl | decide | omega | assumption | (simp only [List.length_cons, List.length_nil]; omega))
local macro_rules | `(tactic| walk_at "opv") => `(tactic| first
  | ((with_reducible apply y_add); rfl; rfl) | ((with_reducible apply y_sub); rfl; rfl) | ((with_reducible apply y_lt); rfl; rfl) | ((with_reducible apply y_le); rfl; rfl)
  | ((with_reducible apply y_gt); rfl; rfl) | ((with_reducible apply y_ge); rfl; rfl) | ((with_reducible apply y_eq); rfl; rfl) | ((with_reducible apply y_ne); rfl; rfl)
  | ((with_reducible apply y_mod); walk_at "side"; rfl; rfl) | ((with_reducible apply y_div); walk_at "side"; rfl; rfl) | ((with_reducible apply y_mulr); walk_at "side"; rfl; rfl) | ((with_reducible apply y_mull); walk_at "side"; rfl; rfl)
  | with_reducible assumption | assumption | rfl)
local macro_rules | `(tactic| walk_at "ev") => `(tactic| first
  | ((with_reducible apply x_wc); rfl; rfl)
  | ((with_reducible apply x_wt); rfl; rfl; rfl)
  | ((with_reducible apply x_w); rfl; (first | rfl | assumption); rfl)
  | ((with_reducible apply x_s); rfl; (first | rfl | assumption); rfl; rfl)
  | ((with_reducible apply x_o); rfl; rfl; rfl; rfl)
  | ((with_reducible apply x_c); rfl; rfl; rfl)
  | ((with_reducible apply x_an); rfl; rfl)
  | ((with_reducible apply x_on); rfl; rfl)
  | ((with_reducible apply v_of); walk_at "ev")
  | ((with_reducible apply v_bin); walk_at "ev"; walk_at "ev"; walk_at "opv")
  | ((with_reducible apply v_ac); walk_at "ev"; walk_at "ev")
  | ((with_reducible apply v_bc); walk_at "ev"; walk_at "ev")
  | ((with_reducible apply v_call); walk_at "ev"; first | with_reducible assumption | assumption | rfl)
  | ((with_reducible apply v_callB); walk_at "ev"; first | with_reducible assumption | assumption | rfl)
  | ((with_reducible apply x_tup); walk_at "ev"; walk_at "side"; rfl; rfl)
  | ((with_reducible apply x_lst); walk_at "ev"; walk_at "side"; rfl; rfl)
  | ((with_reducible apply v_tst); walk_at "ev")
  | ((with_reducible apply v_neg); walk_at "ev")
  | ((with_reducible apply v_ir1); walk_at "ev"; walk_at "side")
  | ((with_reducible apply x_int); rfl; rfl; rfl) | ((with_reducible apply x_ins); rfl; rfl; rfl) | ((with_reducible apply x_ino); rfl; rfl; rfl)
  | ((with_reducible apply v_il); walk_at "ev")
  | ((with_reducible apply v_ilw); walk_at "ev")
  | ((with_reducible apply v_oy); walk_at "ev")
  | ((with_reducible apply x_m); rfl; rfl; rfl))
theorem tell__law_refused {a : Addr} {c : Str} {z : Int} {env : En} (hc : cod c = some z) (hi : 5 < env.length) (hl : env.length = 6) : fh__law_refused a c (env.set 5 (some (opD a, false))) = .rt (.bool true) false := by
  unfold cod at hc
  split at hc
  · rename_i e
    subst e
    have e1 : isc "BadNet" "BadTie" = false := by decide +kernel
    have e2 : isc "BadNet" "SelfTie" = false := by decide +kernel
    have e3 : isc "BadNet" "BadHanging" = false := by decide +kernel
    have e4 : isc "BadNet" "BadNumber" = false := by decide +kernel
    have e5 : isc "BadNet" "TooMany" = false := by decide +kernel
    have e6 : isc "BadNet" "BadNet" = true := by decide +kernel
    have e7 : isc "BadNet" "ValueError" = true := by decide +kernel
    unfold fh__law_refused
    rw [e1, e2, e3, e4, e5, e6, e7]
    match env, hl with
    | [x0, x1, x2, x3, x4, x5], _ =>
      refine w_seq (w_set' (v_or (b := false) (b2 := false) (v_isE rfl) fun _ => v_or (b := false) (b2 := false) (v_isE rfl) fun _ => v_isE rfl) rfl) ?_
      refine w_seq (w_set' (v_or (b := false) (b2 := false) (v_s rfl rfl) fun _ => v_or (b := false) (b2 := false) (v_isE rfl) fun _ => v_isE rfl) rfl) ?_
      exact w_ret (v_and (b := true) (b2 := true) (v_isE rfl) fun _ => v_and (b := true) (b2 := true) (v_isE rfl) fun _ => v_not (b := false) (v_s rfl rfl))
  · cases hc
end Kx
namespace Kx
open PySem PySem.Spec PyProof.Rows L2 Evl Fw
section
variable {P : Program} {w : World} {K : PySem.W.Frag} {mg : Str → Option Value} {base : Heap}
theorem ok_is_whole {f : Addr} {fd : FuncData} (F : Fun K "is_whole" "is_whole" s_is_whole f fd) (z_type : mg "type" = none) (z_int : mg "int" = none) : FnOk P w K mg base CX0 1 f fd ["value", "least", "most"] (spD g_is_whole [true, true, true]) :=
  fn_pure F sc_is_whole rfl fun cdv A outer s H E hr => ⟨f_is_whole, (qs_one (qs_ret (qe_and (qe_tyIs (T := "int") (by rfl) z_type (qw_var 0 (pv 0)) (by rfl) z_int (by decide +kernel)) (qe_one (qe_chain op_le gLe_ok op_le gLe_ok (qw_var 1 (pv 1)) (qw_var 0 (pv 0)) (qw_var 2 (pv 2))))))), fun ds d fr hl hg => by
    unfold g_is_whole at hg
    rw [if_pos (show ds.length = 3 from hl)] at hg
    exact hg⟩
theorem ok__is_tie {f : Addr} {fd : FuncData} (F : Fun K "_is_tie" "_is_tie" s__is_tie f fd) (h_is_whole : Has P w K mg base 1 "is_whole" g_is_whole [true, true, true]) (z_len : mg "len" = none) (z_type : mg "type" = none) (z_tuple : mg "tuple" = none) : FnOk P w K mg base CX0 2 f fd ["many", "tie"] (spD g__is_tie [true, true]) :=
  fn_pure F sc__is_tie rfl fun cdv A outer s H E hr => ⟨f__is_tie, (qs_cons (qs_if (qt_pw (qp_or (qt_tyIsNot (T := "tuple") (by rfl) z_type (qw_var 1 (pv 1)) (by rfl) z_tuple (by decide +kernel)) (qp_or1 (qt_cmp (op_neQ hr.units) gNe_ok (nomark _) (qw_of (qe_callB call_len_seq gLen_ok (by rfl) z_len (by decide +kernel) (qb_cons (qw_var 1 (pv 1)) qb_nil))) (qw_of qe_int))))) (qs_one (qs_ret qe_bl)) qs_nil)
      (qs_one (qs_ret (qe_and (qe_callH h_is_whole (hr.mono (by decide)) (by rfl) (qm_b (qw_of (qe_ix ix_seq gIx_ok (fun _ _ => rfl) (qw_var 1 (pv 1)) (qw_of qe_int))) (qm_b (qw_of qe_int) (qm_b (qw_of (qe_bin op_sub gSub_ok (qw_var 0 (pv 0)) (qw_of qe_int))) qm_nil)))) (qe_one (qe_callH h_is_whole (hr.mono (by decide)) (by rfl) (qm_b (qw_of (qe_ix ix_seq gIx_ok (fun _ _ => rfl) (qw_var 1 (pv 1)) (qw_of qe_int))) (qm_b (qw_of qe_int) (qm_b (qw_of (qe_bin op_sub gSub_ok (qw_var 0 (pv 0)) (qw_of qe_int))) qm_nil))))))))), fun ds d fr hl hg => by
    unfold g__is_tie at hg
    rw [if_pos (show ds.length = 2 from hl)] at hg
    exact hg⟩
theorem okX_need_net {f : Addr} {fd : FuncData} (F : Fun K "need_net" "need_net" s_need_net f fd) (hC : AllC K mg clsN cod) (h__is_tie : Has P w K mg base 2 "_is_tie" g__is_tie [true, true]) (h_is_whole : Has P w K mg base 1 "is_whole" g_is_whole [true, true, true]) (z_len : mg "len" = none) (z_type : mg "type" = none) (z_list : mg "list" = none) {t_MOST_TIES : Tok} (c_MOST_TIES : mg "MOST_TIES" = some (.int 16 t_MOST_TIES)) {t_MOST_PLACES : Tok} (c_MOST_PLACES : mg "MOST_PLACES" = some (.int 7 t_MOST_PLACES)) : FnOk P w K mg base (L2N.CX P w) 3 f fd ["many", "ties"] (spX mg gX_need_net [true, true]) :=
  fn_raise F sc_need_net rfl fun cdv A outer s H E hr => ⟨fX_need_net, (xs_cons (xs_if (qt_not (qt_val (qe_callH h_is_whole (hr.mono (by decide)) (by rfl) (qm_b (qw_var 0 (pv 0)) (qm_b (qw_of qe_int) (qm_b (qw_of (qe_gint (i := 7) (by rfl) c_MOST_PLACES)) qm_nil)))))) (xs_one (xs_raise (Classical.choose_spec (hC "BadNet" 0 rfl)).r rfl (L2N.takes_of rfl rfl rfl rfl) (by rfl))) (xs_ps qs_nil))
      (xs_cons (xs_if (qt_pw (qp_or (qt_tyIsNot (T := "list") (by rfl) z_type (qw_var 1 (pv 1)) (by rfl) z_list (by decide +kernel)) (qp_or1 (qt_cmp op_gt gGt_ok (nomark _) (qw_of (qe_callB call_len_seq gLen_ok (by rfl) z_len (by decide +kernel) (qb_cons (qw_var 1 (pv 1)) qb_nil))) (qw_of (qe_gint (i := 16) (by rfl) c_MOST_TIES)))))) (xs_one (xs_raise (Classical.choose_spec (hC "BadNet" 0 rfl)).r rfl (L2N.takes_of rfl rfl rfl rfl) (by rfl))) (xs_ps qs_nil))
      (xs_one (xs_for (passes_of rfl) rfl (qi_nm 1 (pv 1)) (qg_name 2 (pg_name (i := 2) sc_need_net.nd rfl (by first | exact Or.inl rfl | exact Or.inr rfl))) (xs_one (xs_if (qt_not (qt_val (qe_callH h__is_tie (hr.mono (by decide)) (by rfl) (qm_b (qw_var 0 (pv 0)) (qm_b (qw_var 2 (pv 2)) qm_nil))))) (xs_one (xs_raise (Classical.choose_spec (hC "BadNet" 0 rfl)).r rfl (L2N.takes_of rfl rfl rfl rfl) (by rfl))) (xs_ps qs_nil))))))), fun ds r hl hg => by
    unfold gX_need_net at hg
    rw [if_pos (show ds.length = 2 from hl)] at hg
    exact hg⟩
theorem ok_need_net {f : Addr} {fd : FuncData} (F : Fun K "need_net" "need_net" s_need_net f fd) (h__is_tie : Has P w K mg base 2 "_is_tie" g__is_tie [true, true]) (h_is_whole : Has P w K mg base 1 "is_whole" g_is_whole [true, true, true]) (z_len : mg "len" = none) (z_type : mg "type" = none) (z_list : mg "list" = none) {t_MOST_TIES : Tok} (c_MOST_TIES : mg "MOST_TIES" = some (.int 16 t_MOST_TIES)) {t_MOST_PLACES : Tok} (c_MOST_PLACES : mg "MOST_PLACES" = some (.int 7 t_MOST_PLACES)) : FnOk P w K mg base CX0 3 f fd ["many", "ties"] (spD g_need_net [true, true]) :=
  fn_pure F sc_need_net rfl fun cdv A outer s H E hr => ⟨f_need_net, (qs_cons (qs_if (qt_not (qt_val (qe_callH h_is_whole (hr.mono (by decide)) (by rfl) (qm_b (qw_var 0 (pv 0)) (qm_b (qw_of qe_int) (qm_b (qw_of (qe_gint (i := 7) (by rfl) c_MOST_PLACES)) qm_nil)))))) (qs_one qs_never) qs_nil)
      (qs_cons (qs_if (qt_pw (qp_or (qt_tyIsNot (T := "list") (by rfl) z_type (qw_var 1 (pv 1)) (by rfl) z_list (by decide +kernel)) (qp_or1 (qt_cmp op_gt gGt_ok (nomark _) (qw_of (qe_callB call_len_seq gLen_ok (by rfl) z_len (by decide +kernel) (qb_cons (qw_var 1 (pv 1)) qb_nil))) (qw_of (qe_gint (i := 16) (by rfl) c_MOST_TIES)))))) (qs_one qs_never) qs_nil)
      (qs_one (qs_for PassesOwn.never rfl (qi_nm 1 (pv 1)) (qg_name 2 (pg_name (i := 2) sc_need_net.nd rfl (by first | exact Or.inl rfl | exact Or.inr rfl))) (qs_one (qs_if (qt_not (qt_val (qe_callH h__is_tie (hr.mono (by decide)) (by rfl) (qm_b (qw_var 0 (pv 0)) (qm_b (qw_var 2 (pv 2)) qm_nil))))) (qs_one qs_never) qs_nil)))))), fun ds d fr hl hg => by
    unfold g_need_net at hg
    rw [if_pos (show ds.length = 2 from hl)] at hg
    exact hg⟩
theorem okX_parts_of {f : Addr} {fd : FuncData} (F : Fun K "parts_of" "parts_of" s_parts_of f fd) (hX_need_net : HasX P w K mg base 3 "need_net" gX_need_net [true, true]) : FnOk P w K mg base (L2N.CX P w) 4 f fd ["many", "ties"] (spX mg gX_parts_of [true, true]) :=
  fn_raise F sc_parts_of rfl fun cdv A outer s H E hr => ⟨fX_parts_of, (xs_cons (xs_drop (xe_call hX_need_net (hr.mono (by decide)) (L2N.takes_of rfl rfl rfl rfl) (by rfl) (qm_b (qw_var 0 (pv 0)) (qm_b (qw_var 1 (pv 1)) qm_nil)))) (xs_ps pss_bad)), fun ds r hl hg => by
    unfold gX_parts_of at hg
    rw [if_pos (show ds.length = 2 from hl)] at hg
    exact hg⟩
theorem okX_hangs {f : Addr} {fd : FuncData} (F : Fun K "hangs" "hangs" s_hangs f fd) (hX_parts_of : HasX P w K mg base 4 "parts_of" gX_parts_of [true, true]) (z_len : mg "len" = none) : FnOk P w K mg base (L2N.CX P w) 5 f fd ["many", "ties"] (spX mg gX_hangs [true, true]) :=
  fn_raise F sc_hangs rfl fun cdv A outer s H E hr => ⟨fX_hangs, (xs_one (xs_retR ((pe_cmpR op_eq (pe_callB call_len_seq (by rfl) z_len PySem.boot_len (pa_cons (xr_call (xe_call hX_parts_of (hr.mono (by decide)) (L2N.takes_of rfl rfl rfl rfl) (by rfl) (qm_b (qw_var 0 (pv 0)) (qm_b (qw_var 1 (pv 1)) qm_nil)))) pa_nil)) pe_int (nomark _)).imp fun _ _ _ q => q))), fun ds r hl hg => by
    unfold gX_hangs at hg
    rw [if_pos (show ds.length = 2 from hl)] at hg
    exact hg⟩
theorem okX__need_tie {f : Addr} {fd : FuncData} (F : Fun K "_need_tie" "_need_tie" s__need_tie f fd) (hX_need_net : HasX P w K mg base 3 "need_net" gX_need_net [true, true]) : FnOk P w K mg base (L2N.CX P w) 4 f fd ["many", "ties", "tie"] (spX mg gX__need_tie [true, true, true]) :=
  fn_raise F sc__need_tie rfl fun cdv A outer s H E hr => ⟨fX__need_tie, (xs_cons (xs_drop (xe_call hX_need_net (hr.mono (by decide)) (L2N.takes_of rfl rfl rfl rfl) (by rfl) (qm_b (qw_var 0 (pv 0)) (qm_b (qw_var 1 (pv 1)) qm_nil)))) (xs_ps pss_bad)), fun ds r hl hg => by
    unfold gX__need_tie at hg
    rw [if_pos (show ds.length = 3 from hl)] at hg
    exact hg⟩
theorem okX_net_without {f : Addr} {fd : FuncData} (F : Fun K "net_without" "net_without" s_net_without f fd) (hX__need_tie : HasX P w K mg base 4 "_need_tie" gX__need_tie [true, true, true]) : FnOk P w K mg base (L2N.CX P w) 5 f fd ["many", "ties", "tie"] (spX mg gX_net_without [true, true, true]) :=
  fn_raise F sc_net_without rfl fun cdv A outer s H E hr => ⟨fX_net_without, (xs_cons (xs_drop (xe_call hX__need_tie (hr.mono (by decide)) (L2N.takes_of rfl rfl rfl rfl) (by rfl) (qm_b (qw_var 0 (pv 0)) (qm_b (qw_var 1 (pv 1)) (qm_b (qw_var 2 (pv 2)) qm_nil))))) (xs_ps pss_bad)), fun ds r hl hg => by
    unfold gX_net_without at hg
    rw [if_pos (show ds.length = 3 from hl)] at hg
    exact hg⟩
theorem okX_net_together {f : Addr} {fd : FuncData} (F : Fun K "net_together" "net_together" s_net_together f fd) (hX_net_without : HasX P w K mg base 5 "net_without" gX_net_without [true, true, true]) : FnOk P w K mg base (L2N.CX P w) 6 f fd ["many", "ties", "tie"] (spX mg gX_net_together [true, true, true]) :=
  fn_raise F sc_net_together rfl fun cdv A outer s H E hr => ⟨fX_net_together, (xs_cons (xs_set (i := 3) (ps_set (i := 3) sc_net_together.nd rfl (by first | exact Or.inl rfl | exact Or.inr rfl) (xe_call hX_net_without (hr.mono (by decide)) (L2N.takes_of rfl rfl rfl rfl) (by rfl) (qm_b (qw_var 0 (pv 0)) (qm_b (qw_var 1 (pv 1)) (qm_b (qw_var 2 (pv 2)) qm_nil)))))) (xs_ps pss_bad)), fun ds r hl hg => by
    unfold gX_net_together at hg
    rw [if_pos (show ds.length = 3 from hl)] at hg
    exact hg⟩
theorem okX_table_of {f : Addr} {fd : FuncData} (F : Fun K "table_of" "table_of" s_table_of f fd) (hX_need_net : HasX P w K mg base 3 "need_net" gX_need_net [true, true]) : FnOk P w K mg base (L2N.CX P w) 4 f fd ["many", "ties"] (spX mg gX_table_of [true, true]) :=
  fn_raise F sc_table_of rfl fun cdv A outer s H E hr => ⟨fX_table_of, (xs_cons (xs_drop (xe_call hX_need_net (hr.mono (by decide)) (L2N.takes_of rfl rfl rfl rfl) (by rfl) (qm_b (qw_var 0 (pv 0)) (qm_b (qw_var 1 (pv 1)) qm_nil)))) (xs_ps pss_bad)), fun ds r hl hg => by
    unfold gX_table_of at hg
    rw [if_pos (show ds.length = 2 from hl)] at hg
    exact hg⟩
theorem okX_tally {f : Addr} {fd : FuncData} (F : Fun K "tally" "tally" s_tally f fd) (hX_table_of : HasX P w K mg base 4 "table_of" gX_table_of [true, true]) : FnOk P w K mg base (L2N.CX P w) 5 f fd ["many", "ties"] (spX mg gX_tally [true, true]) :=
  fn_raise F sc_tally rfl fun cdv A outer s H E hr => ⟨fX_tally, (xs_cons (xs_set (i := 2) (ps_set (i := 2) sc_tally.nd rfl (by first | exact Or.inl rfl | exact Or.inr rfl) (xe_call hX_table_of (hr.mono (by decide)) (L2N.takes_of rfl rfl rfl rfl) (by rfl) (qm_b (qw_var 0 (pv 0)) (qm_b (qw_var 1 (pv 1)) qm_nil))))) (xs_ps pss_bad)), fun ds r hl hg => by
    unfold gX_tally at hg
    rw [if_pos (show ds.length = 2 from hl)] at hg
    exact hg⟩
theorem okX_is_hanging {f : Addr} {fd : FuncData} (F : Fun K "is_hanging" "is_hanging" s_is_hanging f fd) (hX_need_net : HasX P w K mg base 3 "need_net" gX_need_net [true, true]) : FnOk P w K mg base (L2N.CX P w) 4 f fd ["many", "ties", "some"] (spX mg gX_is_hanging [true, true, true]) :=
  fn_raise F sc_is_hanging rfl fun cdv A outer s H E hr => ⟨fX_is_hanging, (xs_cons (xs_drop (xe_call hX_need_net (hr.mono (by decide)) (L2N.takes_of rfl rfl rfl rfl) (by rfl) (qm_b (qw_var 0 (pv 0)) (qm_b (qw_var 1 (pv 1)) qm_nil)))) (xs_ps pss_bad)), fun ds r hl hg => by
    unfold gX_is_hanging at hg
    rw [if_pos (show ds.length = 3 from hl)] at hg
    exact hg⟩
theorem okX_all_hangings {f : Addr} {fd : FuncData} (F : Fun K "all_hangings" "all_hangings" s_all_hangings f fd) (hX_tally : HasX P w K mg base 5 "tally" gX_tally [true, true]) : FnOk P w K mg base (L2N.CX P w) 6 f fd ["many", "ties", "most"] (spX mg gX_all_hangings [true, true, true]) :=
  fn_raise F sc_all_hangings rfl fun cdv A outer s H E hr => ⟨fX_all_hangings, (xs_cons (xs_ifR ((pt_cmpR op_gt (xr_call (xe_call hX_tally (hr.mono (by decide)) (L2N.takes_of rfl rfl rfl rfl) (by rfl) (qm_b (qw_var 0 (pv 0)) (qm_b (qw_var 1 (pv 1)) qm_nil)))) (pv 2) (nomark _)).imp fun _ _ _ q => q)) (xs_ps pss_bad)), fun ds r hl hg => by
    unfold gX_all_hangings at hg
    rw [if_pos (show ds.length = 3 from hl)] at hg
    exact hg⟩
theorem okX_hanging_of {f : Addr} {fd : FuncData} (F : Fun K "hanging_of" "hanging_of" s_hanging_of f fd) (hX_tally : HasX P w K mg base 5 "tally" gX_tally [true, true]) (h_is_whole : Has P w K mg base 1 "is_whole" g_is_whole [true, true, true]) : FnOk P w K mg base (L2N.CX P w) 6 f fd ["many", "ties", "number"] (spX mg gX_hanging_of [true, true, true]) :=
  fn_raise F sc_hanging_of rfl fun cdv A outer s H E hr => ⟨fX_hanging_of, (xs_cons (xs_ifRV (i := 2) ((pt_not (pt_val (qe_callR h_is_whole (hr.mono (by decide)) (by rfl) (pa_cons (pv 2) (pa_cons pe_int (pa_cons (pe_op op_sub (xr_call (xe_call hX_tally (hr.mono (by decide)) (L2N.takes_of rfl rfl rfl rfl) (by rfl) (qm_b (qw_var 0 (pv 0)) (qm_b (qw_var 1 (pv 1)) qm_nil)))) pe_int) pa_nil)))))).imp fun _ _ _ q => q)) (xs_ps pss_bad)), fun ds r hl hg => by
    unfold gX_hanging_of at hg
    rw [if_pos (show ds.length = 3 from hl)] at hg
    exact hg⟩
theorem okX_number_of {f : Addr} {fd : FuncData} (F : Fun K "number_of" "number_of" s_number_of f fd) (hX_is_hanging : HasX P w K mg base 4 "is_hanging" gX_is_hanging [true, true, true]) : FnOk P w K mg base (L2N.CX P w) 5 f fd ["many", "ties", "some"] (spX mg gX_number_of [true, true, true]) :=
  fn_raise F sc_number_of rfl fun cdv A outer s H E hr => ⟨fX_number_of, (xs_cons (xs_ifR ((pt_not (pt_val (xr_call (xe_call hX_is_hanging (hr.mono (by decide)) (L2N.takes_of rfl rfl rfl rfl) (by rfl) (qm_b (qw_var 0 (pv 0)) (qm_b (qw_var 1 (pv 1)) (qm_b (qw_var 2 (pv 2)) qm_nil))))))).imp fun _ _ _ q => q)) (xs_ps pss_bad)), fun ds r hl hg => by
    unfold gX_number_of at hg
    rw [if_pos (show ds.length = 3 from hl)] at hg
    exact hg⟩
theorem okX_standing {f : Addr} {fd : FuncData} (F : Fun K "standing" "standing" s_standing f fd) (hX_need_net : HasX P w K mg base 3 "need_net" gX_need_net [true, true]) : FnOk P w K mg base (L2N.CX P w) 4 f fd ["many", "ties"] (spX mg gX_standing [true, true]) :=
  fn_raise F sc_standing rfl fun cdv A outer s H E hr => ⟨fX_standing, (xs_cons (xs_drop (xe_call hX_need_net (hr.mono (by decide)) (L2N.takes_of rfl rfl rfl rfl) (by rfl) (qm_b (qw_var 0 (pv 0)) (qm_b (qw_var 1 (pv 1)) qm_nil)))) (xs_ps pss_bad)), fun ds r hl hg => by
    unfold gX_standing at hg
    rw [if_pos (show ds.length = 2 from hl)] at hg
    exact hg⟩
theorem okX_exchanges {f : Addr} {fd : FuncData} (F : Fun K "exchanges" "exchanges" s_exchanges f fd) (hX_is_hanging : HasX P w K mg base 4 "is_hanging" gX_is_hanging [true, true, true]) : FnOk P w K mg base (L2N.CX P w) 5 f fd ["many", "ties", "one", "other"] (spX mg gX_exchanges [true, true, true, true]) :=
  fn_raise F sc_exchanges rfl fun cdv A outer s H E hr => ⟨fX_exchanges, (xs_cons (xs_ifR (((pw_or (pt_not (pt_val (xr_call (xe_call hX_is_hanging (hr.mono (by decide)) (L2N.takes_of rfl rfl rfl rfl) (by rfl) (qm_b (qw_var 0 (pv 0)) (qm_b (qw_var 1 (pv 1)) (qm_b (qw_var 2 (pv 2)) qm_nil))))))) (pw_or1 (pt_not (pt_val (xr_call (xe_call hX_is_hanging (hr.mono (by decide)) (L2N.takes_of rfl rfl rfl rfl) (by rfl) (qm_b (qw_var 0 (pv 0)) (qm_b (qw_var 1 (pv 1)) (qm_b (qw_var 3 (pv 3)) qm_nil))))))))).pt).imp fun _ _ _ q => q)) (xs_ps pss_bad)), fun ds r hl hg => by
    unfold gX_exchanges at hg
    rw [if_pos (show ds.length = 4 from hl)] at hg
    exact hg⟩
theorem ok__law_cell_at {gc : GFn} (hG : CellG K gc) {f : Addr} {fd : FuncData} (F : Fun K "_law_cell_at" "_law_cell_at" s__law_cell_at f fd) (z_len : mg "len" = none) : FnOk P w K mg base CX0 1 f fd ["_law_script", "_law_k"] (spD gc [false, true]) := by
  refine F.ok sc__law_cell_at (fun vs H Q E h => by obtain ⟨R, ds, d, fr, _, ha, _⟩ := h; obtain ⟨h1, h2⟩ := ha.len; exact h1.trans h2.symm) (fun cdv A outer s H vs Q E hr h => ?_)
  obtain ⟨R, ds, d, fr, e, hd, hg, kq⟩ := h
  obtain ⟨a, ns, k, rfl, hS, hk, rfl, rfl⟩ := hG R H vs ds d fr e hd hg
  refine ⟨_, pss_cons (ps_if (pt_cmpR op_lt (pv 1) (pe_callB call_len_seq (by rfl) z_len PySem.boot_len (pa_cons (pv 0) pa_nil)) (nomark _))
    (pss_one (ps_ret (pe_ix ix_list (pv 0) (pv 1) (fun _ _ => rfl)))) pss_nil) (pss_one (ps_ret pe_int)), ?_⟩
  refine ⟨.int k, rfl, .ref a, rfl, a, ns.map V.int, rfl, .inl hS, _, _, rfl, rfl, _, rfl, ite2 (fun hc => ?_) (fun hc => ?_)⟩
  · exact ⟨.ref a, rfl, .int k, rfl, a, _, k, _, rfl, rfl, hS, cell_at_ok hk (of_decide_eq_true hc), kq.now e (.int _)⟩
  · have hz := cell_out hk (fun z => hc (decide_eq_true z))
    rw [hz] at kq
    exact kq.now e (.int 0)
theorem ok__law_mixed {gc : GFn} {f : Addr} {fd : FuncData} (F : Fun K "_law_mixed" "_law_mixed" s__law_mixed f fd) (h__law_cell_at : Has P w K mg base 1 "_law_cell_at" gc [false, true]) : FnOk P w K mg base CX0 2 f fd ["_law_script", "_law_k"] (spD (g__law_mixed gc) [false, true]) :=
  fn_pure F sc__law_mixed rfl fun cdv A outer s H E hr => ⟨f__law_mixed gc, (qs_one (qs_ret (qe_bin op_mod gMod_ok (qw_of (qe_bin op_addQ gAdd_ok (qw_of (qe_bin op_mulQ gMul_ok (qw_of (qe_callH h__law_cell_at (hr.mono (by decide)) (by rfl) (qm_s (qe_var 0 (pv 0)) (qm_b (qw_var 1 (pv 1)) qm_nil)))) (qw_of qe_int))) (qw_of (qe_bin op_mulQ gMul_ok (qw_of (qe_bin op_mulQ gMul_ok (qw_of qe_int) (qw_var 1 (pv 1)))) (qw_var 1 (pv 1)))))) (qw_of qe_int)))), fun ds d fr hl hg => by
    unfold g__law_mixed at hg
    rw [if_pos (show ds.length = 2 from hl)] at hg
    exact hg⟩
theorem ok__law_tree {gc : GFn} {f : Addr} {fd : FuncData} (F : Fun K "_law_tree" "_law_tree" s__law_tree f fd) (h__law_mixed : Has P w K mg base 2 "_law_mixed" (g__law_mixed gc) [false, true]) (z_range : mg "range" = none) : FnOk P w K mg base CX0 3 f fd ["_law_script", "_law_many"] (spD (g__law_tree gc) [false, true]) :=
  fn_pure F sc__law_tree rfl fun cdv A outer s H E hr => ⟨f__law_tree gc, (qs_cons (qs_set (ps_set (i := 2) sc__law_tree.nd rfl (by first | exact Or.inl rfl | exact Or.inr rfl) (qe_lst qa_nil)))
      (qs_cons (qs_for PassesOwn.never rfl (qi_range1 (by rfl) z_range (qa_cons (qe_bin op_sub gSub_ok (qw_var 1 (pv 1)) (qw_of qe_int)) qa_nil)) (qg_name 3 (pg_name (i := 3) sc__law_tree.nd rfl (by first | exact Or.inl rfl | exact Or.inr rfl))) (qs_cons (qs_set (ps_set (i := 4) sc__law_tree.nd rfl (by first | exact Or.inl rfl | exact Or.inr rfl) (qe_callH h__law_mixed (hr.mono (by decide)) (by rfl) (qm_s (qe_var 0 (pv 0)) (qm_b (qw_of (qe_bin op_addQ gAdd_ok (qw_of qe_int) (qw_var 3 (pv 3)))) qm_nil)))))
      (qs_cons (qs_set (ps_set (i := 5) sc__law_tree.nd rfl (by first | exact Or.inl rfl | exact Or.inr rfl) (qe_tup (qa_cons (qe_bin op_mod gMod_ok (qw_var 4 (pv 4)) (qw_of (qe_bin op_addQ gAdd_ok (qw_var 3 (pv 3)) (qw_of qe_int)))) (qa_cons (qe_bin op_addQ gAdd_ok (qw_var 3 (pv 3)) (qw_of qe_int)) qa_nil)))))
      (qs_one (qs_app (ps_expr (pe_bm PySem.F.plainAttrs_list PySem.F.slot_list_append PySem.F.type_list_append mt_append (pv 2) (pa_cons (qe_ix ix_seq gIx_ok (fun _ _ => rfl) (qw_of (qe_lst (qa_cons (qe_var 5 (pv 5)) (qa_cons (qe_tup (qa_cons (qe_ix ix_seq gIx_ok (fun _ _ => rfl) (qw_var 5 (pv 5)) (qw_of qe_int)) (qa_cons (qe_ix ix_seq gIx_ok (fun _ _ => rfl) (qw_var 5 (pv 5)) (qw_of qe_int)) qa_nil))) qa_nil)))) (qw_of (qe_bin op_mod gMod_ok (qw_of (qe_bin op_fdiv gDiv_ok (qw_var 4 (pv 4)) (qw_of qe_int))) (qw_of qe_int)))) pa_nil))))))))
      (qs_one (qs_ret (qe_mv 2 (pv 2)))))), fun ds d fr hl hg => by
    unfold g__law_tree at hg
    rw [if_pos (show ds.length = 2 from hl)] at hg
    exact hg⟩
theorem ok__law_net {gc : GFn} {f : Addr} {fd : FuncData} (F : Fun K "_law_net" "_law_net" s__law_net f fd) (h__law_mixed : Has P w K mg base 2 "_law_mixed" (g__law_mixed gc) [false, true]) (h__law_tree : Has P w K mg base 3 "_law_tree" (g__law_tree gc) [false, true]) (z_len : mg "len" = none) (z_range : mg "range" = none) : FnOk P w K mg base CX0 4 f fd ["_law_script", "_law_most", "_law_room"] (spD (g__law_net gc) [false, true, true]) :=
  fn_pure F sc__law_net rfl fun cdv A outer s H E hr => ⟨f__law_net gc, (qs_cons (qs_set (ps_set (i := 3) sc__law_net.nd rfl (by first | exact Or.inl rfl | exact Or.inr rfl) (qe_callH h__law_mixed (hr.mono (by decide)) (by rfl) (qm_s (qe_var 0 (pv 0)) (qm_b (qw_of qe_int) qm_nil)))))
      (qs_cons (qs_set (ps_set (i := 4) sc__law_net.nd rfl (by first | exact Or.inl rfl | exact Or.inr rfl) (qe_bin op_addQ gAdd_ok (qw_of qe_int) (qw_of (qe_bin op_mod gMod_ok (qw_var 3 (pv 3)) (qw_var 1 (pv 1)))))))
      (qs_cons (qs_set (ps_set (i := 5) sc__law_net.nd rfl (by first | exact Or.inl rfl | exact Or.inr rfl) (qe_lst qa_nil)))
      (qs_cons (qs_if (qt_cmp op_gt gGt_ok (nomark _) (qw_of (qe_bin op_mod gMod_ok (qw_of (qe_bin op_fdiv gDiv_ok (qw_var 3 (pv 3)) (qw_of qe_int))) (qw_of qe_int))) (qw_of qe_int)) (qs_one (qs_set (ps_set (i := 5) sc__law_net.nd rfl (by first | exact Or.inl rfl | exact Or.inr rfl) (qe_callH h__law_tree (hr.mono (by decide)) (by rfl) (qm_s (qe_var 0 (pv 0)) (qm_b (qw_var 4 (pv 4)) qm_nil)))))) qs_nil)
      (qs_cons (qs_for PassesOwn.never rfl (qi_range1 (by rfl) z_range (qa_cons (qe_bin op_mod gMod_ok (qw_of (qe_callH h__law_mixed (hr.mono (by decide)) (by rfl) (qm_s (qe_var 0 (pv 0)) (qm_b (qw_of qe_int) qm_nil)))) (qw_of (qe_bin op_addQ gAdd_ok (qw_of (qe_bin op_sub gSub_ok (qw_var 2 (pv 2)) (qw_of (qe_callB call_len_seq gLen_ok (by rfl) z_len (by decide +kernel) (qb_cons (qw_var 5 (pv 5)) qb_nil))))) (qw_of qe_int)))) qa_nil)) (qg_name 6 (pg_name (i := 6) sc__law_net.nd rfl (by first | exact Or.inl rfl | exact Or.inr rfl))) (qs_cons (qs_set (ps_set (i := 9) sc__law_net.nd rfl (by first | exact Or.inl rfl | exact Or.inr rfl) (qe_callH h__law_mixed (hr.mono (by decide)) (by rfl) (qm_s (qe_var 0 (pv 0)) (qm_b (qw_of (qe_bin op_addQ gAdd_ok (qw_of qe_int) (qw_var 6 (pv 6)))) qm_nil)))))
      (qs_cons (qs_set (ps_set (i := 10) sc__law_net.nd rfl (by first | exact Or.inl rfl | exact Or.inr rfl) (qe_bin op_mod gMod_ok (qw_var 9 (pv 9)) (qw_var 4 (pv 4)))))
      (qs_cons (qs_set (ps_set (i := 11) sc__law_net.nd rfl (by first | exact Or.inl rfl | exact Or.inr rfl) (qe_tup (qa_cons (qe_var 10 (pv 10)) (qa_cons (qe_bin op_mod gMod_ok (qw_of (qe_bin op_addQ gAdd_ok (qw_var 10 (pv 10)) (qw_of (qe_bin op_mod gMod_ok (qw_of (qe_bin op_fdiv gDiv_ok (qw_var 9 (pv 9)) (qw_of qe_int))) (qw_var 4 (pv 4)))))) (qw_var 4 (pv 4))) qa_nil)))))
      (qs_cons (qs_if (qt_pw (qp_and (qt_cmp (op_eqQ hr.units) gEq_ok (nomark _) (qw_of (qe_bin op_mod gMod_ok (qw_of (qe_bin op_fdiv gDiv_ok (qw_var 9 (pv 9)) (qw_of qe_int))) (qw_of qe_int))) (qw_of qe_int)) (qp_and1 (qt_cmp (op_neQ hr.units) gNe_ok (nomark _) (qw_var 5 (pv 5)) (qw_of (qe_lst qa_nil)))))) (qs_one (qs_set (ps_set (i := 11) sc__law_net.nd rfl (by first | exact Or.inl rfl | exact Or.inr rfl) (qe_ix ix_seq gIx_ok (fun _ _ => rfl) (qw_var 5 (pv 5)) (qw_of (qe_bin op_mod gMod_ok (qw_of (qe_bin op_fdiv gDiv_ok (qw_var 9 (pv 9)) (qw_of qe_int))) (qw_of (qe_callB call_len_seq gLen_ok (by rfl) z_len (by decide +kernel) (qb_cons (qw_var 5 (pv 5)) qb_nil))))))))) qs_nil)
      (qs_one (qs_app (ps_expr (pe_bm PySem.F.plainAttrs_list PySem.F.slot_list_append PySem.F.type_list_append mt_append (pv 5) (pa_cons (qe_var 11 (pv 11)) pa_nil))))))))))
      (qs_cons (qs_set (ps_set (i := 7) sc__law_net.nd rfl (by first | exact Or.inl rfl | exact Or.inr rfl) (qe_bin op_mod gMod_ok (qw_of (qe_bin op_fdiv gDiv_ok (qw_var 3 (pv 3)) (qw_of qe_int))) (qw_var 4 (pv 4)))))
      (qs_cons (qs_setLc (i := 5) rfl sc__law_net.nd rfl rfl (sw_true rfl rfl rfl (by decide +kernel)) (qi_listb (qw_var 5 (pv 5))) (blkOk_by (own := [("_law_one", 10), ("_law_other", 12)]) (N := N__law_net) (sc := defScope s__law_net) (by decide +kernel)) (fun _ _ _ _ _ => (qg_tup rfl (qgs_cons (qg_name 10 (pg_name (i := 10) sc__law_net.nd rfl (by first | exact Or.inl rfl | exact Or.inr rfl))) (qgs_cons (qg_name 12 (pg_name (i := 12) sc__law_net.nd rfl (by first | exact Or.inl rfl | exact Or.inr rfl))) qgs_nil)))) (fun _ _ _ _ _ => qts_nil) (fun _ _ _ _ _ => (qe_tup (qa_cons (qe_bin op_mod gMod_ok (qw_of (qe_bin op_addQ gAdd_ok (qw_var 10 (pv 10)) (qw_var 7 (pv 7)))) (qw_var 4 (pv 4))) (qa_cons (qe_bin op_mod gMod_ok (qw_of (qe_bin op_addQ gAdd_ok (qw_var 12 (pv 12)) (qw_var 7 (pv 7)))) (qw_var 4 (pv 4))) qa_nil)))) (by decide))
      (qs_cons (qs_set (ps_set (i := 8) sc__law_net.nd rfl (by first | exact Or.inl rfl | exact Or.inr rfl) (qe_bin op_mod gMod_ok (qw_of (qe_callH h__law_mixed (hr.mono (by decide)) (by rfl) (qm_s (qe_var 0 (pv 0)) (qm_b (qw_of qe_int) qm_nil)))) (qw_of (qe_bin op_addQ gAdd_ok (qw_of (qe_callB call_len_seq gLen_ok (by rfl) z_len (by decide +kernel) (qb_cons (qw_var 5 (pv 5)) qb_nil))) (qw_of qe_int))))))
      (qs_one (qs_ret (qe_tup (qa_cons (qe_var 4 (pv 4)) (qa_cons (qe_bin op_addQ gAdd_ok (qw_of (qe_sl (qw_var 5 (pv 5)) (qo_yes (qw_var 8 (pv 8))) qo_no)) (qw_of (qe_sl (qw_var 5 (pv 5)) qo_no (qo_yes (qw_var 8 (pv 8)))))) qa_nil))))))))))))), fun ds d fr hl hg => by
    unfold g__law_net at hg
    rw [if_pos (show ds.length = 3 from hl)] at hg
    exact hg⟩
theorem ok__law_bad_tie {f : Addr} {fd : FuncData} (F : Fun K "_law_bad_tie" "_law_bad_tie" s__law_bad_tie f fd)  : FnOk P w K mg base CX0 1 f fd ["_law_cell", "_law_many"] (spD g__law_bad_tie [true, true]) :=
  fn_pure F sc__law_bad_tie rfl fun cdv A outer s H E hr => ⟨f__law_bad_tie, (qs_cons (qs_set (ps_set (i := 2) sc__law_bad_tie.nd rfl (by first | exact Or.inl rfl | exact Or.inr rfl) (qe_bin op_mod gMod_ok (qw_of (qe_bin op_fdiv gDiv_ok (qw_var 0 (pv 0)) (qw_of qe_int))) (qw_of (qe_bin op_pow gPow_ok (qw_of qe_int) (qw_of qe_int))))))
      (qs_cons (qs_set (ps_set (i := 3) sc__law_bad_tie.nd rfl (by first | exact Or.inl rfl | exact Or.inr rfl) (qe_lst (qa_cons (qe_tup (qa_cons qe_int (qa_cons (qe_var 1 (pv 1)) qa_nil))) (qa_cons (qe_tup (qa_cons (qe_var 1 (pv 1)) (qa_cons qe_int qa_nil))) (qa_cons (qe_tup (qa_cons (qe_neg qe_int) (qa_cons qe_int qa_nil))) (qa_cons (qe_tup (qa_cons qe_int (qa_cons (qe_bin op_sub gSub_ok (qw_of (qe_neg qe_int)) (qw_var 2 (pv 2))) qa_nil))) (qa_cons (qe_tup (qa_cons qe_int qa_nil)) (qa_cons (qe_tup (qa_cons qe_int (qa_cons qe_int (qa_cons qe_int qa_nil)))) (qa_cons (qe_lst (qa_cons qe_int (qa_cons qe_int qa_nil))) (qa_cons qe_non (qa_cons (qe_tup (qa_cons qe_bl (qa_cons qe_int qa_nil))) (qa_cons (qe_tup (qa_cons qe_int (qa_cons qe_bl qa_nil))) qa_nil)))))))))))))
      (qs_one (qs_ret (qe_ix ix_seq gIx_ok (fun _ _ => rfl) (qw_of (qe_bin op_addQ gAdd_ok (qw_var 3 (pv 3)) (qw_of (qe_lst (qa_cons (qe_tup (qa_cons qe_int (qa_cons qe_str qa_nil))) (qa_cons qe_int (qa_cons qe_str (qa_cons (qe_tup (qa_cons (qe_bin op_addQ gAdd_ok (qw_var 1 (pv 1)) (qw_var 2 (pv 2))) (qa_cons qe_int qa_nil))) qa_nil)))))))) (qw_of (qe_bin op_mod gMod_ok (qw_var 0 (pv 0)) (qw_of qe_int)))))))), fun ds d fr hl hg => by
    unfold g__law_bad_tie at hg
    rw [if_pos (show ds.length = 2 from hl)] at hg
    exact hg⟩
theorem ok__law_spoilt {f : Addr} {fd : FuncData} (F : Fun K "_law_spoilt" "_law_spoilt" s__law_spoilt f fd) (h__law_bad_tie : Has P w K mg base 1 "_law_bad_tie" g__law_bad_tie [true, true]) (z_len : mg "len" = none) (z_tuple : mg "tuple" = none) : FnOk P w K mg base CX0 2 f fd ["_law_many", "_law_ties", "_law_way", "_law_cell"] (spD g__law_spoilt [true, false, true, true]) :=
  fn_pure F sc__law_spoilt rfl fun cdv A outer s H E hr => ⟨f__law_spoilt, (qs_cons (qs_if (qt_cmp (op_eqQ hr.units) gEq_ok (nomark _) (qw_var 2 (pv 2)) (qw_of qe_int)) (qs_cons (qs_set (ps_set (i := 5) sc__law_spoilt.nd rfl (by first | exact Or.inl rfl | exact Or.inr rfl) (qe_lst (qa_cons qe_int (qa_cons qe_int (qa_cons (qe_neg qe_int) (qa_cons qe_bl (qa_cons qe_non (qa_cons qe_str (qa_cons (qe_bin op_addQ gAdd_ok (qw_of qe_int) (qw_of (qe_bin op_mod gMod_ok (qw_of (qe_bin op_fdiv gDiv_ok (qw_var 3 (pv 3)) (qw_of qe_int))) (qw_of (qe_bin op_pow gPow_ok (qw_of qe_int) (qw_of qe_int)))))) (qa_cons (qe_lst (qa_cons qe_int qa_nil)) (qa_cons (qe_tup (qa_cons qe_int qa_nil)) qa_nil))))))))))))
      (qs_one (qs_ret (qe_tup (qa_cons (qe_ix ix_seq gIx_ok (fun _ _ => rfl) (qw_var 5 (pv 5)) (qw_of (qe_bin op_mod gMod_ok (qw_var 3 (pv 3)) (qw_of qe_int)))) (qa_cons (qe_ix ix_seq gIx_ok (fun _ _ => rfl) (qw_of (qe_lst (qa_cons (qe_lst qa_nil) (qa_cons (qe_var 1 (pv 1)) qa_nil)))) (qw_of (qe_bin op_mod gMod_ok (qw_of (qe_bin op_fdiv gDiv_ok (qw_var 3 (pv 3)) (qw_of qe_int))) (qw_of qe_int)))) qa_nil)))))) qs_nil)
      (qs_cons (qs_if (qt_cmp (op_eqQ hr.units) gEq_ok (nomark _) (qw_var 2 (pv 2)) (qw_of qe_int)) (qs_one (qs_ret (qe_tup (qa_cons (qe_var 0 (pv 0)) (qa_cons (qe_ix ix_seq gIx_ok (fun _ _ => rfl) (qw_of (qe_lst (qa_cons qe_non (qa_cons qe_int (qa_cons (qe_callTy call_tuple_of gTuple_ok (by rfl) z_tuple (by decide +kernel) (qb_cons (qw_var 1 (pv 1)) qb_nil)) (qa_cons qe_dict0 (qa_cons qe_str qa_nil))))))) (qw_of (qe_bin op_mod gMod_ok (qw_var 3 (pv 3)) (qw_of qe_int)))) qa_nil))))) qs_nil)
      (qs_cons (qs_if (qt_cmp (op_eqQ hr.units) gEq_ok (nomark _) (qw_var 2 (pv 2)) (qw_of qe_int)) (qs_one (qs_ret (qe_tup (qa_cons (qe_var 0 (pv 0)) (qa_cons (qe_bin op_mulQ gMul_ok (qw_of (qe_lst (qa_cons (qe_tup (qa_cons qe_int (qa_cons qe_int qa_nil))) qa_nil))) (qw_of qe_int)) qa_nil))))) qs_nil)
      (qs_cons (qs_set (ps_set (i := 4) sc__law_spoilt.nd rfl (by first | exact Or.inl rfl | exact Or.inr rfl) (qe_bin op_mod gMod_ok (qw_of (qe_bin op_fdiv gDiv_ok (qw_var 3 (pv 3)) (qw_of qe_int))) (qw_of (qe_bin op_addQ gAdd_ok (qw_of (qe_callB call_len_seq gLen_ok (by rfl) z_len (by decide +kernel) (qb_cons (qw_var 1 (pv 1)) qb_nil))) (qw_of qe_int))))))
      (qs_one (qs_ret (qe_tup (qa_cons (qe_var 0 (pv 0)) (qa_cons (qe_bin op_addQ gAdd_ok (qw_of (qe_bin op_addQ gAdd_ok (qw_of (qe_sl (qw_var 1 (pv 1)) qo_no (qo_yes (qw_var 4 (pv 4))))) (qw_of (qe_lst (qa_cons (qe_callH h__law_bad_tie (hr.mono (by decide)) (by rfl) (qm_b (qw_var 3 (pv 3)) (qm_b (qw_var 0 (pv 0)) qm_nil))) qa_nil))))) (qw_of (qe_sl (qw_var 1 (pv 1)) (qo_yes (qw_var 4 (pv 4))) qo_no))) qa_nil))))))))), fun ds d fr hl hg => by
    unfold g__law_spoilt at hg
    rw [if_pos (show ds.length = 4 from hl)] at hg
    exact hg⟩
theorem ok__law_asked {f : Addr} {fd : FuncData} (F : Fun K "_law_asked" "_law_asked" s__law_asked f fd) (hC : AllC K mg clsN cod) (hX_need_net : HasX P w K mg base 3 "need_net" gX_need_net [true, true]) (hX_parts_of : HasX P w K mg base 4 "parts_of" gX_parts_of [true, true]) (hX_hangs : HasX P w K mg base 5 "hangs" gX_hangs [true, true]) (hX_net_without : HasX P w K mg base 5 "net_without" gX_net_without [true, true, true]) (hX_net_together : HasX P w K mg base 6 "net_together" gX_net_together [true, true, true]) (hX_table_of : HasX P w K mg base 4 "table_of" gX_table_of [true, true]) (hX_tally : HasX P w K mg base 5 "tally" gX_tally [true, true]) (hX_is_hanging : HasX P w K mg base 4 "is_hanging" gX_is_hanging [true, true, true]) (hX_all_hangings : HasX P w K mg base 6 "all_hangings" gX_all_hangings [true, true, true]) (hX_hanging_of : HasX P w K mg base 6 "hanging_of" gX_hanging_of [true, true, true]) (hX_number_of : HasX P w K mg base 5 "number_of" gX_number_of [true, true, true]) (hX_standing : HasX P w K mg base 4 "standing" gX_standing [true, true]) (hX_exchanges : HasX P w K mg base 5 "exchanges" gX_exchanges [true, true, true, true]) : FnOk P w K mg base (L2N.CX P w) 7 f fd ["_law_which", "_law_many", "_law_ties", "_law_odd"] (spX mg g__law_asked [true, true, true, true]) :=
  fn_raise F sc__law_asked rfl fun cdv A outer s H E hr => ⟨f__law_asked, (xs_cons (xs_if (qt_cmp (op_eqQ hr.units) gEq_ok (nomark _) (qw_var 0 (pv 0)) (qw_of qe_int)) (xs_one (xs_ret (xe_call hX_need_net (hr.mono (by decide)) (L2N.takes_of rfl rfl rfl rfl) (by rfl) (qm_b (qw_var 1 (pv 1)) (qm_b (qw_var 2 (pv 2)) qm_nil))))) (xs_ps qs_nil))
      (xs_cons (xs_if (qt_cmp (op_eqQ hr.units) gEq_ok (nomark _) (qw_var 0 (pv 0)) (qw_of qe_int)) (xs_one (xs_ret (xe_call hX_parts_of (hr.mono (by decide)) (L2N.takes_of rfl rfl rfl rfl) (by rfl) (qm_b (qw_var 1 (pv 1)) (qm_b (qw_var 2 (pv 2)) qm_nil))))) (xs_ps qs_nil))
      (xs_cons (xs_if (qt_cmp (op_eqQ hr.units) gEq_ok (nomark _) (qw_var 0 (pv 0)) (qw_of qe_int)) (xs_one (xs_ret (xe_call hX_hangs (hr.mono (by decide)) (L2N.takes_of rfl rfl rfl rfl) (by rfl) (qm_b (qw_var 1 (pv 1)) (qm_b (qw_var 2 (pv 2)) qm_nil))))) (xs_ps qs_nil))
      (xs_cons (xs_if (qt_cmp (op_eqQ hr.units) gEq_ok (nomark _) (qw_var 0 (pv 0)) (qw_of qe_int)) (xs_one (xs_ret (xe_call hX_net_without (hr.mono (by decide)) (L2N.takes_of rfl rfl rfl rfl) (by rfl) (qm_b (qw_var 1 (pv 1)) (qm_b (qw_var 2 (pv 2)) (qm_b (qw_var 3 (pv 3)) qm_nil)))))) (xs_ps qs_nil))
      (xs_cons (xs_if (qt_cmp (op_eqQ hr.units) gEq_ok (nomark _) (qw_var 0 (pv 0)) (qw_of qe_int)) (xs_one (xs_ret (xe_call hX_net_together (hr.mono (by decide)) (L2N.takes_of rfl rfl rfl rfl) (by rfl) (qm_b (qw_var 1 (pv 1)) (qm_b (qw_var 2 (pv 2)) (qm_b (qw_var 3 (pv 3)) qm_nil)))))) (xs_ps qs_nil))
      (xs_cons (xs_if (qt_cmp (op_eqQ hr.units) gEq_ok (nomark _) (qw_var 0 (pv 0)) (qw_of qe_int)) (xs_one (xs_ret (xe_call hX_table_of (hr.mono (by decide)) (L2N.takes_of rfl rfl rfl rfl) (by rfl) (qm_b (qw_var 1 (pv 1)) (qm_b (qw_var 2 (pv 2)) qm_nil))))) (xs_ps qs_nil))
      (xs_cons (xs_if (qt_cmp (op_eqQ hr.units) gEq_ok (nomark _) (qw_var 0 (pv 0)) (qw_of qe_int)) (xs_one (xs_ret (xe_call hX_tally (hr.mono (by decide)) (L2N.takes_of rfl rfl rfl rfl) (by rfl) (qm_b (qw_var 1 (pv 1)) (qm_b (qw_var 2 (pv 2)) qm_nil))))) (xs_ps qs_nil))
      (xs_cons (xs_if (qt_cmp (op_eqQ hr.units) gEq_ok (nomark _) (qw_var 0 (pv 0)) (qw_of qe_int)) (xs_one (xs_ret (xe_call hX_is_hanging (hr.mono (by decide)) (L2N.takes_of rfl rfl rfl rfl) (by rfl) (qm_b (qw_var 1 (pv 1)) (qm_b (qw_var 2 (pv 2)) (qm_b (qw_var 3 (pv 3)) qm_nil)))))) (xs_ps qs_nil))
      (xs_cons (xs_if (qt_cmp (op_eqQ hr.units) gEq_ok (nomark _) (qw_var 0 (pv 0)) (qw_of qe_int)) (xs_one (xs_ret (xe_call hX_all_hangings (hr.mono (by decide)) (L2N.takes_of rfl rfl rfl rfl) (by rfl) (qm_b (qw_var 1 (pv 1)) (qm_b (qw_var 2 (pv 2)) (qm_b (qw_of qe_int) qm_nil)))))) (xs_ps qs_nil))
      (xs_cons (xs_if (qt_cmp (op_eqQ hr.units) gEq_ok (nomark _) (qw_var 0 (pv 0)) (qw_of qe_int)) (xs_one (xs_ret (xe_call hX_hanging_of (hr.mono (by decide)) (L2N.takes_of rfl rfl rfl rfl) (by rfl) (qm_b (qw_var 1 (pv 1)) (qm_b (qw_var 2 (pv 2)) (qm_b (qw_var 3 (pv 3)) qm_nil)))))) (xs_ps qs_nil))
      (xs_cons (xs_if (qt_cmp (op_eqQ hr.units) gEq_ok (nomark _) (qw_var 0 (pv 0)) (qw_of qe_int)) (xs_one (xs_ret (xe_call hX_number_of (hr.mono (by decide)) (L2N.takes_of rfl rfl rfl rfl) (by rfl) (qm_b (qw_var 1 (pv 1)) (qm_b (qw_var 2 (pv 2)) (qm_b (qw_var 3 (pv 3)) qm_nil)))))) (xs_ps qs_nil))
      (xs_cons (xs_if (qt_cmp (op_eqQ hr.units) gEq_ok (nomark _) (qw_var 0 (pv 0)) (qw_of qe_int)) (xs_one (xs_ret (xe_call hX_standing (hr.mono (by decide)) (L2N.takes_of rfl rfl rfl rfl) (by rfl) (qm_b (qw_var 1 (pv 1)) (qm_b (qw_var 2 (pv 2)) qm_nil))))) (xs_ps qs_nil))
      (xs_one (xs_ret (xe_call hX_exchanges (hr.mono (by decide)) (L2N.takes_of rfl rfl rfl rfl) (by rfl) (qm_b (qw_var 1 (pv 1)) (qm_b (qw_var 2 (pv 2)) (qm_b (qw_var 3 (pv 3)) (qm_b (qw_var 3 (pv 3)) qm_nil))))))))))))))))))), fun ds r hl hg => by
    unfold g__law_asked at hg
    rw [if_pos (show ds.length = 4 from hl)] at hg
    exact hg⟩
theorem ok__law_refused {f : Addr} {fd : FuncData} (F : Fun K "_law_refused" "_law_refused" s__law_refused f fd) (hC : AllC K mg clsN cod) {NA : Addr} (mE : mg "NetError" = some (.ref NA)) (h__law_asked : HasX P w K mg base 7 "_law_asked" g__law_asked [true, true, true, true]) (z_isinstance : mg "isinstance" = none) : FnOk P w K mg base CX0 8 f fd ["_law_which", "_law_many", "_law_ties", "_law_odd"] (spD g__law_refused [true, true, true, true]) :=
  fn_pure F sc__law_refused rfl fun cdv A outer s H E hr => ⟨f__law_refused, (qs_cons (qs_tryN (fh := fh__law_refused) hC rfl rfl sc__law_refused.nd rfl rfl (by rfl) mE (fun W pn xe tk => (xe_call h__law_asked (hr.mono (by decide)) tk (by rfl) (qm_b (qw_var 0 (pv 0)) (qm_b (qw_var 1 (pv 1)) (qm_b (qw_var 2 (pv 2)) (qm_b (qw_var 3 (pv 3)) qm_nil))))))
      (fun a oe c C z pn CF hc hz hf => (qs_cons (qs_set (ps_set (i := 4) sc__law_refused.nd rfl (by first | exact Or.inl rfl | exact Or.inr rfl) (qe_or (qe_isS CF hz hf (by decide +kernel) z_isinstance (pv 5)) (qe_or (qe_isS CF hz hf (by decide +kernel) z_isinstance (pv 5)) (qe_one (qe_isS CF hz hf (by decide +kernel) z_isinstance (pv 5)))))))
      (qs_cons (qs_set (ps_set (i := 4) sc__law_refused.nd rfl (by first | exact Or.inl rfl | exact Or.inr rfl) (qe_or (qe_var 4 (pv 4)) (qe_or (qe_isS CF hz hf (by decide +kernel) z_isinstance (pv 5)) (qe_one (qe_isS CF hz hf (by decide +kernel) z_isinstance (pv 5)))))))
      (qs_one (qs_ret (qe_and (qe_isS CF hz hf (by decide +kernel) z_isinstance (pv 5)) (qe_and (qe_isS CF hz hf (by decide +kernel) z_isinstance (pv 5)) (qe_one (qe_not (qe_var 4 (pv 4)))))))))))
      (fun a c z env hc hi hl => tell__law_refused hc hi hl))
      (qs_one (qs_ret qe_bl))), fun ds d fr hl hg => by
    unfold g__law_refused at hg
    rw [if_pos (show ds.length = 4 from hl)] at hg
    exact hg⟩
theorem ok_law {gc : GFn} {f : Addr} {fd : FuncData} (F : Fun K "law" "law" s_law f fd) (h__law_refused : Has P w K mg base 8 "_law_refused" g__law_refused [true, true, true, true]) (h__law_bad_tie : Has P w K mg base 1 "_law_bad_tie" g__law_bad_tie [true, true]) (h__law_spoilt : Has P w K mg base 2 "_law_spoilt" g__law_spoilt [true, false, true, true]) (h_need_net : Has P w K mg base 3 "need_net" g_need_net [true, true]) (h__law_mixed : Has P w K mg base 2 "_law_mixed" (g__law_mixed gc) [false, true]) (h__law_net : Has P w K mg base 4 "_law_net" (g__law_net gc) [false, true, true]) (z_str : mg "str" = none) (z_len : mg "len" = none) (z_list : mg "list" = none) : EnterOk P w K mg base f fd ["_law_script"] (spD (g_law gc) [false]) :=
  enter_pure (k := 8) F sc_law rfl ⟨rfl, by decide, by decide⟩ fun cdv s H E hr => ⟨f_law gc, (qs_cons (qs_asg (qe_callH h__law_net (hr.mono (by decide)) (by rfl) (qm_s (qe_var 0 (pv 0)) (qm_b (qw_of qe_int) (qm_b (qw_of qe_int) qm_nil)))) (qg_tup rfl (qgs_cons (qg_name 6 (pg_name (i := 6) sc_law.nd rfl (by first | exact Or.inl rfl | exact Or.inr rfl))) (qgs_cons (qg_name 7 (pg_name (i := 7) sc_law.nd rfl (by first | exact Or.inl rfl | exact Or.inr rfl))) qgs_nil))))
      (qs_cons (qs_set (ps_set (i := 1) sc_law.nd rfl (by first | exact Or.inl rfl | exact Or.inr rfl) (qe_callH h__law_mixed (hr.mono (by decide)) (by rfl) (qm_s (qe_var 0 (pv 0)) (qm_b (qw_of qe_int) qm_nil)))))
      (qs_cons (qs_if (qt_cmp op_notN gNotN_ok (nomark _) (qw_of (qe_callH h_need_net (hr.mono (by decide)) (by rfl) (qm_b (qw_var 6 (pv 6)) (qm_b (qw_of (qe_callTy call_list_of gList_ok (by rfl) z_list (by decide +kernel) (qb_cons (qw_var 7 (pv 7)) qb_nil))) qm_nil)))) (qw_of qe_non)) (qs_one (qs_ret qe_bl)) qs_nil)
      (qs_cons (qs_set (ps_set (i := 2) sc_law.nd rfl (by first | exact Or.inl rfl | exact Or.inr rfl) (qe_callH h__law_spoilt (hr.mono (by decide)) (by rfl) (qm_b (qw_var 6 (pv 6)) (qm_s (qe_var 7 (pv 7)) (qm_b (qw_of (qe_bin op_mod gMod_ok (qw_var 1 (pv 1)) (qw_of qe_int))) (qm_b (qw_of (qe_bin op_fdiv gDiv_ok (qw_var 1 (pv 1)) (qw_of qe_int))) qm_nil)))))))
      (qs_cons (qs_if (qt_pw (qp_and (qt_cmp op_gt gGt_ok (nomark _) (qw_of (qe_bin op_mod gMod_ok (qw_var 1 (pv 1)) (qw_of qe_int))) (qw_of qe_int)) (qp_and1 (qt_cmp (op_eqQ hr.units) gEq_ok (nomark _) (qw_of (qe_callB call_len_seq gLen_ok (by rfl) z_len (by decide +kernel) (qb_cons (qw_var 7 (pv 7)) qb_nil))) (qw_of qe_int))))) (qs_one (qs_set (ps_set (i := 2) sc_law.nd rfl (by first | exact Or.inl rfl | exact Or.inr rfl) (qe_tup (qa_cons (qe_var 6 (pv 6)) (qa_cons (qe_bin op_addQ gAdd_ok (qw_of (qe_bin op_addQ gAdd_ok (qw_of (qe_sl (qw_var 7 (pv 7)) qo_no (qo_yes (qw_of (qe_bin op_mod gMod_ok (qw_of (qe_bin op_fdiv gDiv_ok (qw_var 1 (pv 1)) (qw_of qe_int))) (qw_of qe_int)))))) (qw_of (qe_lst (qa_cons (qe_callH h__law_bad_tie (hr.mono (by decide)) (by rfl) (qm_b (qw_of (qe_bin op_fdiv gDiv_ok (qw_var 1 (pv 1)) (qw_of qe_int))) (qm_b (qw_var 6 (pv 6)) qm_nil))) qa_nil))))) (qw_of (qe_sl (qw_var 7 (pv 7)) (qo_yes (qw_of (qe_bin op_addQ gAdd_ok (qw_of qe_int) (qw_of (qe_bin op_mod gMod_ok (qw_of (qe_bin op_fdiv gDiv_ok (qw_var 1 (pv 1)) (qw_of qe_int))) (qw_of qe_int)))))) qo_no))) qa_nil)))))) qs_nil)
      (qs_cons (qs_set (ps_set (i := 3) sc_law.nd rfl (by first | exact Or.inl rfl | exact Or.inr rfl) (qe_callTy (call_strD rfl (units80 hr)) gStr_ok (by rfl) z_str (by decide +kernel) (qb_cons (qw_var 2 (pv 2)) qb_nil))))
      (qs_cons (qs_set (ps_set (i := 4) sc_law.nd rfl (by first | exact Or.inl rfl | exact Or.inr rfl) (qe_ix ix_seq gIx_ok (fun _ _ => rfl) (qw_of (qe_lst (qa_cons (qe_neg qe_int) (qa_cons qe_non (qa_cons qe_bl (qa_cons qe_str (qa_cons (qe_lst (qa_cons qe_int (qa_cons qe_int (qa_cons qe_int (qa_cons qe_int (qa_cons qe_int (qa_cons qe_int (qa_cons qe_int qa_nil)))))))) (qa_cons (qe_bin op_pow gPow_ok (qw_of qe_int) (qw_of qe_int)) qa_nil)))))))) (qw_of (qe_bin op_mod gMod_ok (qw_of (qe_bin op_fdiv gDiv_ok (qw_var 1 (pv 1)) (qw_of qe_int))) (qw_of qe_int))))))
      (qs_cons (qs_for PassesOwn.never rfl (qi_list (qe_lst (qa_cons (qe_bin op_mod gMod_ok (qw_of (qe_bin op_fdiv gDiv_ok (qw_var 1 (pv 1)) (qw_of qe_int))) (qw_of qe_int)) (qa_cons (qe_bin op_mod gMod_ok (qw_of (qe_bin op_addQ gAdd_ok (qw_of (qe_bin op_fdiv gDiv_ok (qw_var 1 (pv 1)) (qw_of qe_int))) (qw_of qe_int))) (qw_of qe_int)) (qa_cons qe_int qa_nil))))) (qg_name 5 (pg_name (i := 5) sc_law.nd rfl (by first | exact Or.inl rfl | exact Or.inr rfl))) (qs_one (qs_if (qt_not (qt_val (qe_callH h__law_refused (hr.mono (by decide)) (by rfl) (qm_b (qw_var 5 (pv 5)) (qm_b (qw_of (qe_ix ix_seq gIx_ok (fun _ _ => rfl) (qw_var 2 (pv 2)) (qw_of qe_int))) (qm_b (qw_of (qe_ix ix_seq gIx_ok (fun _ _ => rfl) (qw_var 2 (pv 2)) (qw_of qe_int))) (qm_b (qw_var 4 (pv 4)) qm_nil))))))) (qs_one (qs_ret qe_bl)) qs_nil)))
      (qs_one (qs_ret (qe_cmp op_eq gEqS_ok (nomark _) (qw_of (qe_callTy (call_strD rfl (units80 hr)) gStr_ok (by rfl) z_str (by decide +kernel) (qb_cons (qw_var 2 (pv 2)) qb_nil))) (qw_var 3 (pv 3))))))))))))), fun ds d fr hl hg => by
    unfold g_law at hg
    rw [if_pos (show ds.length = 1 from hl)] at hg
    exact hg⟩
end
end Kx
namespace Kx
open PySem PySem.Spec PyProof.Rows L2 Evl Fw
local macro_rules | `(tactic| walk_at "side") => `(tactic| first | rfl | decide | omega | assumption | (simp only [List.length_cons, List.length_nil]; omega))
local macro_rules | `(tactic| walk_at "opv") => `(tactic| first
  | ((with_reducible apply y_add); rfl; rfl) | ((with_reducible apply y_sub); rfl; rfl) | ((with_reducible apply y_lt); rfl; rfl) | ((with_reducible apply y_le); rfl; rfl)
  | ((with_reducible apply y_gt); rfl; rfl) | ((with_reducible apply y_ge); rfl; rfl) | ((with_reducible apply y_eq); rfl; rfl) | ((with_reducible apply y_ne); rfl; rfl)
  | ((with_reducible apply y_mod); walk_at "side"; rfl; rfl) | ((with_reducible apply y_div); walk_at "side"; rfl; rfl) | ((with_reducible apply y_mulr); walk_at "side"; rfl; rfl) | ((with_reducible apply y_mull); walk_at "side"; rfl; rfl)
  | with_reducible assumption | assumption | rfl)
local macro_rules | `(tactic| walk_at "ev") => `(tactic| first
  | ((with_reducible apply x_wc); rfl; rfl)
  | ((with_reducible apply x_wt); rfl; rfl; rfl)
  | ((with_reducible apply x_w); rfl; (first | rfl | assumption); rfl)
  | ((with_reducible apply x_s); rfl; (first | rfl | assumption); rfl; rfl)
  | ((with_reducible apply x_o); rfl; rfl; rfl; rfl)
  | ((with_reducible apply x_c); rfl; rfl; rfl)
  | ((with_reducible apply x_an); rfl; rfl)
  | ((with_reducible apply x_on); rfl; rfl)
  | ((with_reducible apply v_of); walk_at "ev")
  | ((with_reducible apply v_bin); walk_at "ev"; walk_at "ev"; walk_at "opv")
  | ((with_reducible apply v_ac); walk_at "ev"; walk_at "ev")
  | ((with_reducible apply v_bc); walk_at "ev"; walk_at "ev")
  | ((with_reducible apply v_call); walk_at "ev"; first | with_reducible assumption | assumption | rfl)
  | ((with_reducible apply v_callB); walk_at "ev"; first | with_reducible assumption | assumption | rfl)
  | ((with_reducible apply x_tup); walk_at "ev"; walk_at "side"; rfl; rfl)
  | ((with_reducible apply x_lst); walk_at "ev"; walk_at "side"; rfl; rfl)
  | ((with_reducible apply v_tst); walk_at "ev")
  | ((with_reducible apply v_neg); walk_at "ev")
  | ((with_reducible apply v_ir1); walk_at "ev"; walk_at "side")
  | ((with_reducible apply x_int); rfl; rfl; rfl) | ((with_reducible apply x_ins); rfl; rfl; rfl) | ((with_reducible apply x_ino); rfl; rfl; rfl)
  | ((with_reducible apply v_il); walk_at "ev")
  | ((with_reducible apply v_ilw); walk_at "ev")
  | ((with_reducible apply v_oy); walk_at "ev")
  | ((with_reducible apply x_m); rfl; rfl; rfl))
section
variable {n : Nat} {ts : List Tie} (h1 : 1 ≤ n) (h7 : n ≤ 7) (hv : TiesN n ts) (hl : ts.length ≤ 16)
include h1 h7 hv hl
theorem again {m t sv : PyData} {c : Int} (h0 : 0 ≤ c) (hB : BadP m t) : ∃ m' t', sIf (cAnd (tstE (eBin gGt (wOf (eBin gMod (wVar 1) (wOf (eC (.int 5))))) (wOf (eC (.int 2))))) (tstE (eBin gEq (wOf (eCallB gLen (bCons (wVar 7) aNil))) (wOf (eC (.int 16)))))) (sSet 2 (eTup (aCons (eVar 6) (aCons (eBin gAdd (wOf (eBin gAdd (wOf (eSl (wVar 7) oNo (oYes (wOf (eBin gMod (wOf (eBin gDiv (wVar 1) (wOf (eC (.int 5))))) (wOf (eC (.int 16)))))))) (wOf (eLst (aCons (eCall g__law_bad_tie (bCons (wOf (eBin gDiv (wVar 1) (wOf (eC (.int 80))))) (bCons (wVar 6) aNil))) aNil))))) (wOf (eSl (wVar 7) (oYes (wOf (eBin gAdd (wOf (eC (.int 1))) (wOf (eBin gMod (wOf (eBin gDiv (wVar 1) (wOf (eC (.int 5))))) (wOf (eC (.int 16)))))))) oNo))) aNil)))) Out.nx
    [some (sv, false), some (.int c, false), some (.tuple [m, t], false), none, none, none, some (.int (n : Int), false), some (.list (ts.map tieN), false)]
    = .nx [some (sv, false), some (.int c, false), some (.tuple [m', t'], false), none, none, none, some (.int (n : Int), false), some (.list (ts.map tieN), false)] ∧ BadP m' t' := by
  have tst : cAnd (tstE (eBin gGt (wOf (eBin gMod (wVar 1) (wOf (eC (.int 5))))) (wOf (eC (.int 2))))) (tstE (eBin gEq (wOf (eCallB gLen (bCons (wVar 7) aNil))) (wOf (eC (.int 16)))))
      [some (sv, false), some (.int c, false), some (.tuple [m, t], false), none, none, none, some (.int (n : Int), false), some (.list (ts.map tieN), false)]
      = some (decide (2 < c % 5) && decide (((ts.map tieN).length : Int) = 16), [some (sv, false), some (.int c, false), some (.tuple [m, t], false), none, none, none, some (.int (n : Int), false), some (.list (ts.map tieN), false)]) :=
    v_ca (v_tst (v_bin (v_of (v_bin (v_w rfl rfl) v_wc (g_mod (by decide)))) v_wc g_gt)) fun _ => v_tst (v_bin (v_of (v_callB (v_bc (v_w rfl rfl) v_an) rfl)) v_wc g_eq)
  by_cases hb : (decide (2 < c % 5) && decide (((ts.map tieN).length : Int) = 16)) = true
  · obtain ⟨d, hd, dt, db, ds⟩ := g_badtie (n := n) (c := c / 80) h1 h7 (by omega)
    have s1 := cutA_short (ts.map tieN) none (some (c / 5 % 16))
    have s2 := cutA_short (ts.map tieN) (some (1 + c / 5 % 16)) none
    rw [List.length_map] at s1 s2
    refine ⟨.int (n : Int), .list (cutA (ts.map tieN) none (some (c / 5 % 16)) ++ [d] ++ cutA (ts.map tieN) (some (1 + c / 5 % 16)) none), ?_, bad_cut h1 h7 hv hl (some (c / 5 % 16)) (some (1 + c / 5 % 16)) dt db ds⟩
    have i0 : (0 : Int) ≤ c / 5 % 16 := Int.emod_nonneg _ (by decide)
    refine w_ift tst hb ?_
    exact w_set' (v_tup (v_ac (v_s rfl rfl) (v_ac (v_bin (v_of (v_bin (v_of (v_slL (v_w rfl rfl) v_on (v_oy (v_of (v_bin (v_of (v_bin (v_w rfl rfl) v_wc (g_div (by decide)))) v_wc (g_mod (by decide))))))) (v_of (v_lst (v_ac (v_call (v_bc (v_of (v_bin (v_w rfl rfl) v_wc (g_div (by decide)))) (v_bc (v_w rfl rfl) v_an)) hd) v_an) (le1000 rfl))) (g_addL (by rw [List.length_singleton]; omega)))) (v_of (v_slL (v_w rfl rfl) (v_oy (v_of (v_bin v_wc (v_of (v_bin (v_of (v_bin (v_w rfl rfl) v_wc (g_div (by decide)))) v_wc (g_mod (by decide)))) g_add))) v_on)) (g_addL (by rw [List.length_append, List.length_singleton]; omega))) v_an)) (le1000 rfl)) rfl
  · exact ⟨m, t, w_iff tst (Bool.eq_false_iff.mpr hb) rfl, hB⟩
end
def oddsL : List PyData := [.int (-1), .none, .bool true, .str "x", .list [.int 0, .int 0, .int 0, .int 0, .int 0, .int 0, .int 0], .int (10 ^ (30 : Int).toNat)]
theorem odd_tok : ∀ d ∈ oddsL, tokOf d = none := by
  intro d hd
  unfold oddsL at hd
  simp only [List.mem_cons, List.not_mem_nil, or_false] at hd
  rcases hd with rfl | rfl | rfl | rfl | rfl | rfl <;> rfl
theorem law_loop {gc : GFn} {m t o kv sv x6 x7 : PyData} {c : Int} (hB : BadP m t) (ho : tokOf o = none) (js : List Nat) (hj : ∀ j ∈ js, j < 13) :
    ∃ e5, loopS (gNm 5) (f_law_b1 gc) (js.map fun (j : Nat) => PyData.int (j : Int)) [some (sv, false), some (.int c, false), some (.tuple [m, t], false), some (kv, false), some (o, false), none, some (x6, false), some (x7, false)]
      = .nx [some (sv, false), some (.int c, false), some (.tuple [m, t], false), some (kv, false), some (o, false), e5, some (x6, false), some (x7, false)] := by
  obtain ⟨e, he, e5, rfl⟩ := loop_map (g := gNm 5) (fb := f_law_b1 gc) (env := [some (sv, false), some (.int c, false), some (.tuple [m, t], false), some (kv, false), some (o, false), none, some (x6, false), some (x7, false)]) (fun (j : Nat) => PyData.int (j : Int)) js
    (fun _ env => ∃ e5, env = [some (sv, false), some (.int c, false), some (.tuple [m, t], false), some (kv, false), some (o, false), e5, some (x6, false), some (x7, false)]) ⟨none, rfl⟩ fun k hk env hp => by
      obtain ⟨e5, rfl⟩ := hp
      refine ⟨_, [some (sv, false), some (.int c, false), some (.tuple [m, t], false), some (kv, false), some (o, false), some (.int ((js[k] : Nat) : Int), false), some (x6, false), some (x7, false)], rfl, Or.inl ?_, ⟨_, rfl⟩⟩
      unfold f_law_b1
      have hr := g_refused hB.1 hB.2.1 hB.2.2.1 ho (hj _ (List.getElem_mem hk))
      exact w_iff (v_cn (v_tst (v_call (v_bc (v_w (i := 5) (d := .int ((js[k] : Nat) : Int)) rfl rfl) (v_bc (v_of (v_bin (v_w rfl rfl) v_wc (g_ixT (ds := [m, t]) (d := m) rfl))) (v_bc (v_of (v_bin (v_w rfl rfl) v_wc (g_ixT (ds := [m, t]) (d := t) rfl))) (v_bc (v_w rfl ho) v_an)))) hr))) rfl rfl
  exact ⟨e5, he⟩
theorem g_law_true {ns : List Int} {sd : PyData} {gc : GFn} (hc : CellOk ns sd gc) : ∃ fr, g_law gc [sd] = some (.bool true, fr) := by
  have hsd := hc.1
  obtain ⟨n, ts, hnet, hn1, hn7, hv, hl⟩ := g_netN hc (mo := 7) (ro := 16) (by decide) (by decide) (by decide) (by decide)
  have h7 : n ≤ 7 := by omega
  have hl16 : ts.length ≤ 16 := by omega
  have m3 := g_mixed hc (k := 3) (by decide) (by decide)
  have m3l := mixed_lo ns 3
  generalize mixed ns 3 = c at m3 m3l
  have c0 := m3l.1
  obtain ⟨m0, t0, hsp, hB0⟩ := g_spoilt (way := c % 5) (c := c / 5) hn1 h7 hv hl16 (by omega)
  obtain ⟨m, t, hag, hB⟩ := again (sv := sd) (c := c) hn1 h7 hv hl16 c0 hB0
  have hneed : g_need_net [.int (n : Int), .list (ts.map tieN)] = some (.none, false) := g_need hn1 h7 hv hl16
  obtain ⟨o, hoat⟩ : ∃ o, oddsL[(c / 11 % 6).toNat]? = some o := ⟨_, List.getElem?_eq_getElem (show (c / 11 % 6).toNat < 6 by omega)⟩
  have ho := odd_tok o (List.mem_of_getElem? hoat)
  have hat := atI_nat hoat
  rw [Int.toNat_of_nonneg (by omega)] at hat
  obtain ⟨a, ha, ha13⟩ : ∃ a : Nat, c / 25 % 13 = (a : Int) ∧ a < 13 := ⟨(c / 25 % 13).toNat, by omega, by omega⟩
  obtain ⟨b, hb, hb13⟩ : ∃ b : Nat, (c / 25 + 5) % 13 = (b : Int) ∧ b < 13 := ⟨((c / 25 + 5) % 13).toNat, by omega, by omega⟩
  obtain ⟨e5, hloop⟩ := law_loop (gc := gc) (kv := .str (strTx (.tuple [m, t]))) (sv := sd) (x6 := .int (n : Int)) (x7 := .list (ts.map tieN)) (c := c) hB ho [a, b, 0] (by
    intro j hj
    simp only [List.mem_cons, List.not_mem_nil, or_false] at hj
    rcases hj with rfl | rfl | rfl <;> omega)
  refine ⟨false, g_of (f := f_law gc) rfl rfl ?_⟩
  show f_law gc [some (sd, false), none, none, none, none, none, none, none] = _
  refine w_seq (w_asg (v_call (v_ac (v_s rfl hsd) (v_bc v_wc (v_bc v_wc v_an))) hnet) rfl) ?_
  refine w_seq (w_set' (v_call (v_ac (v_s rfl hsd) (v_bc v_wc v_an)) m3) rfl) ?_
  refine w_seq (w_iff (b := false) (v_tst (v_bin (v_of (v_call (v_bc (v_w rfl rfl) (v_bc (v_of (v_callB (v_bc (v_w rfl rfl) v_an) rfl)) v_an)) hneed)) v_wc rfl)) rfl rfl) ?_
  refine w_seq (w_set' (v_call (v_bc (v_w rfl rfl) (v_ac (v_s rfl rfl) (v_bc (v_of (v_bin (v_w rfl rfl) v_wc (g_mod (by decide)))) (v_bc (v_of (v_bin (v_w rfl rfl) v_wc (g_div (by decide)))) v_an)))) hsp) rfl) ?_
  refine w_seq hag ?_
  refine w_seq (w_set' (v_callB (v_bc (v_w rfl rfl) v_an) (g_strP hB.2.2.2)) rfl) ?_
  refine w_seq (w_set' (v_bin (v_of (v_lst (v_ac (v_neg (v_c (d := .int 1))) (v_ac (v_c (d := .none)) (v_ac (v_c (d := .bool true)) (v_ac (v_c (d := .str "x")) (v_ac (v_lst (v_ac v_c (v_ac v_c (v_ac v_c (v_ac v_c (v_ac v_c (v_ac v_c (v_ac v_c v_an))))))) (le1000 rfl)) (v_ac (v_bin v_wc v_wc (g_pow (by decide))) v_an)))))) (le1000 rfl))) (v_of (v_bin (v_of (v_bin (v_w rfl rfl) v_wc (g_div (by decide)))) v_wc (g_mod (by decide)))) (g_ixL (ds := oddsL) hat)) rfl) ?_
  have hli : eLst (aCons (eBin gMod (wOf (eBin gDiv (wVar 1) (wOf (eC (.int 25))))) (wOf (eC (.int 13)))) (aCons (eBin gMod (wOf (eBin gAdd (wOf (eBin gDiv (wVar 1) (wOf (eC (.int 25))))) (wOf (eC (.int 5))))) (wOf (eC (.int 13)))) (aCons (eC (.int 0)) aNil))) [some (sd, false), some (.int c, false), some (.tuple [m, t], false), some (.str (strTx (.tuple [m, t])), false), some (o, false), none, some (.int (n : Int), false), some (.list (ts.map tieN), false)]
      = some (.list ([a, b, 0].map fun (j : Nat) => PyData.int (j : Int)), true, [some (sd, false), some (.int c, false), some (.tuple [m, t], false), some (.str (strTx (.tuple [m, t])), false), some (o, false), none, some (.int (n : Int), false), some (.list (ts.map tieN), false)]) := by
    have := v_lst (env := [some (sd, false), some (.int c, false), some (.tuple [m, t], false), some (.str (strTx (.tuple [m, t])), false), some (o, false), none, some (.int (n : Int), false), some (.list (ts.map tieN), false)])
      (v_ac (v_bin (v_of (v_bin (v_w (i := 1) rfl rfl) v_wc (g_div (j := 25) (by decide)))) v_wc (g_mod (j := 13) (by decide))) (v_ac (v_bin (v_of (v_bin (v_of (v_bin (v_w (i := 1) rfl rfl) v_wc (g_div (j := 25) (by decide)))) (v_wc (d := .int 5)) g_add)) v_wc (g_mod (j := 13) (by decide))) (v_ac (v_c (d := .int 0)) v_an))) (le1000 rfl)
    rw [ha, hb] at this
    exact this
  refine w_seq (w_for (v_il hli) hloop) ?_
  exact w_ret (v_bin (v_of (v_callB (v_bc (v_w rfl rfl) v_an) (g_strP hB.2.2.2))) (v_w rfl rfl) (g_eqS _))
end Kx
namespace Kx
open PySem PySem.Spec PyProof.Rows L2 Evl Fw
set_option maxHeartbeats 4000000 in
theorem all_mk {l : PySem.W.OpenLaw} {w : World} {K : PySem.W.Frag} {h : Heap} {mg : Str → Option Value} {fa : Addr} (X : K.In h) (G : h.Ns mainGlobals mg) (hfa : mg "law" = some (.ref fa))
    {p0 p1 p2 p3 p4 p5 p6 p7 p8 p9 p10 p11 p12 p13 p14 p15 p16 p17 p18 p19 p20 p21 p22 p23 p24 : Addr} {od0 an0 od1 an1 od2 an2 od3 an3 od4 an4 od5 an5 od6 an6 od7 an7 od8 an8 od9 an9 od10 an10 od11 an11 od12 an12 od13 an13 od14 an14 od15 an15 od16 an16 od17 an17 od18 an18 od19 an19 od20 an20 od21 an21 od22 an22 od23 an23 od24 an24 : Option Addr} {sl0 sl1 sl2 sl3 sl4 sl5 sl6 sl7 sl8 sl9 sl10 sl11 sl12 sl13 sl14 sl15 sl16 sl17 sl18 sl19 sl20 sl21 sl22 sl23 sl24 : Array (Option Value)} {oc0 kV0 dc0 pm0 cd0 ct0 oc1 kV1 dc1 pm1 cd1 ct1 oc2 kV2 dc2 pm2 cd2 ct2 oc3 kV3 dc3 pm3 cd3 ct3 oc4 kV4 dc4 pm4 cd4 ct4 oc5 kV5 dc5 pm5 cd5 ct5 oc6 kV6 dc6 pm6 cd6 ct6 oc7 kV7 dc7 pm7 cd7 ct7 oc8 kV8 dc8 pm8 cd8 ct8 oc9 kV9 dc9 pm9 cd9 ct9 oc10 kV10 dc10 pm10 cd10 ct10 oc11 kV11 dc11 pm11 cd11 ct11 oc12 kV12 dc12 pm12 cd12 ct12 oc13 kV13 dc13 pm13 cd13 ct13 oc14 kV14 dc14 pm14 cd14 ct14 oc15 kV15 dc15 pm15 cd15 ct15 oc16 kV16 dc16 pm16 cd16 ct16 oc17 kV17 dc17 pm17 cd17 ct17 oc18 kV18 dc18 pm18 cd18 ct18 oc19 kV19 dc19 pm19 cd19 ct19 oc20 kV20 dc20 pm20 cd20 ct20 oc21 kV21 dc21 pm21 cd21 ct21 oc22 kV22 dc22 pm22 cd22 ct22 oc23 kV23 dc23 pm23 cd23 ct23 oc24 kV24 dc24 pm24 cd24 ct24 : Value} {t_MOST_TIES t_MOST_PLACES : Tok}
    (a0 : PySem.W.nsIn K mainGlobals "is_whole" = some (some (.ref p0))) (l0 : K.lookup p0 = some ⟨oc0, od0, .func (PySem.W.fnOf "is_whole" "is_whole" (defArgs s_is_whole) (defBody s_is_whole) (defScope s_is_whole) .none kV0 dc0 pm0 an0 cd0 ct0), sl0⟩) (q0 : PySem.W.codeIn K cd0 "is_whole" = true) (k0 : PySem.W.keepIn K (.ref p0) = true)
    (a1 : PySem.W.nsIn K mainGlobals "_is_tie" = some (some (.ref p1))) (l1 : K.lookup p1 = some ⟨oc1, od1, .func (PySem.W.fnOf "_is_tie" "_is_tie" (defArgs s__is_tie) (defBody s__is_tie) (defScope s__is_tie) .none kV1 dc1 pm1 an1 cd1 ct1), sl1⟩) (q1 : PySem.W.codeIn K cd1 "_is_tie" = true) (k1 : PySem.W.keepIn K (.ref p1) = true)
    (a2 : PySem.W.nsIn K mainGlobals "need_net" = some (some (.ref p2))) (l2 : K.lookup p2 = some ⟨oc2, od2, .func (PySem.W.fnOf "need_net" "need_net" (defArgs s_need_net) (defBody s_need_net) (defScope s_need_net) .none kV2 dc2 pm2 an2 cd2 ct2), sl2⟩) (q2 : PySem.W.codeIn K cd2 "need_net" = true) (k2 : PySem.W.keepIn K (.ref p2) = true)
    (a3 : PySem.W.nsIn K mainGlobals "parts_of" = some (some (.ref p3))) (l3 : K.lookup p3 = some ⟨oc3, od3, .func (PySem.W.fnOf "parts_of" "parts_of" (defArgs s_parts_of) (defBody s_parts_of) (defScope s_parts_of) .none kV3 dc3 pm3 an3 cd3 ct3), sl3⟩) (q3 : PySem.W.codeIn K cd3 "parts_of" = true) (k3 : PySem.W.keepIn K (.ref p3) = true)
    (a4 : PySem.W.nsIn K mainGlobals "hangs" = some (some (.ref p4))) (l4 : K.lookup p4 = some ⟨oc4, od4, .func (PySem.W.fnOf "hangs" "hangs" (defArgs s_hangs) (defBody s_hangs) (defScope s_hangs) .none kV4 dc4 pm4 an4 cd4 ct4), sl4⟩) (q4 : PySem.W.codeIn K cd4 "hangs" = true) (k4 : PySem.W.keepIn K (.ref p4) = true)
    (a5 : PySem.W.nsIn K mainGlobals "_need_tie" = some (some (.ref p5))) (l5 : K.lookup p5 = some ⟨oc5, od5, .func (PySem.W.fnOf "_need_tie" "_need_tie" (defArgs s__need_tie) (defBody s__need_tie) (defScope s__need_tie) .none kV5 dc5 pm5 an5 cd5 ct5), sl5⟩) (q5 : PySem.W.codeIn K cd5 "_need_tie" = true) (k5 : PySem.W.keepIn K (.ref p5) = true)
    (a6 : PySem.W.nsIn K mainGlobals "net_without" = some (some (.ref p6))) (l6 : K.lookup p6 = some ⟨oc6, od6, .func (PySem.W.fnOf "net_without" "net_without" (defArgs s_net_without) (defBody s_net_without) (defScope s_net_without) .none kV6 dc6 pm6 an6 cd6 ct6), sl6⟩) (q6 : PySem.W.codeIn K cd6 "net_without" = true) (k6 : PySem.W.keepIn K (.ref p6) = true)
    (a7 : PySem.W.nsIn K mainGlobals "net_together" = some (some (.ref p7))) (l7 : K.lookup p7 = some ⟨oc7, od7, .func (PySem.W.fnOf "net_together" "net_together" (defArgs s_net_together) (defBody s_net_together) (defScope s_net_together) .none kV7 dc7 pm7 an7 cd7 ct7), sl7⟩) (q7 : PySem.W.codeIn K cd7 "net_together" = true) (k7 : PySem.W.keepIn K (.ref p7) = true)
    (a8 : PySem.W.nsIn K mainGlobals "table_of" = some (some (.ref p8))) (l8 : K.lookup p8 = some ⟨oc8, od8, .func (PySem.W.fnOf "table_of" "table_of" (defArgs s_table_of) (defBody s_table_of) (defScope s_table_of) .none kV8 dc8 pm8 an8 cd8 ct8), sl8⟩) (q8 : PySem.W.codeIn K cd8 "table_of" = true) (k8 : PySem.W.keepIn K (.ref p8) = true)
    (a9 : PySem.W.nsIn K mainGlobals "tally" = some (some (.ref p9))) (l9 : K.lookup p9 = some ⟨oc9, od9, .func (PySem.W.fnOf "tally" "tally" (defArgs s_tally) (defBody s_tally) (defScope s_tally) .none kV9 dc9 pm9 an9 cd9 ct9), sl9⟩) (q9 : PySem.W.codeIn K cd9 "tally" = true) (k9 : PySem.W.keepIn K (.ref p9) = true)
    (a10 : PySem.W.nsIn K mainGlobals "is_hanging" = some (some (.ref p10))) (l10 : K.lookup p10 = some ⟨oc10, od10, .func (PySem.W.fnOf "is_hanging" "is_hanging" (defArgs s_is_hanging) (defBody s_is_hanging) (defScope s_is_hanging) .none kV10 dc10 pm10 an10 cd10 ct10), sl10⟩) (q10 : PySem.W.codeIn K cd10 "is_hanging" = true) (k10 : PySem.W.keepIn K (.ref p10) = true)
    (a11 : PySem.W.nsIn K mainGlobals "all_hangings" = some (some (.ref p11))) (l11 : K.lookup p11 = some ⟨oc11, od11, .func (PySem.W.fnOf "all_hangings" "all_hangings" (defArgs s_all_hangings) (defBody s_all_hangings) (defScope s_all_hangings) .none kV11 dc11 pm11 an11 cd11 ct11), sl11⟩) (q11 : PySem.W.codeIn K cd11 "all_hangings" = true) (k11 : PySem.W.keepIn K (.ref p11) = true)
    (a12 : PySem.W.nsIn K mainGlobals "hanging_of" = some (some (.ref p12))) (l12 : K.lookup p12 = some ⟨oc12, od12, .func (PySem.W.fnOf "hanging_of" "hanging_of" (defArgs s_hanging_of) (defBody s_hanging_of) (defScope s_hanging_of) .none kV12 dc12 pm12 an12 cd12 ct12), sl12⟩) (q12 : PySem.W.codeIn K cd12 "hanging_of" = true) (k12 : PySem.W.keepIn K (.ref p12) = true)
    (a13 : PySem.W.nsIn K mainGlobals "number_of" = some (some (.ref p13))) (l13 : K.lookup p13 = some ⟨oc13, od13, .func (PySem.W.fnOf "number_of" "number_of" (defArgs s_number_of) (defBody s_number_of) (defScope s_number_of) .none kV13 dc13 pm13 an13 cd13 ct13), sl13⟩) (q13 : PySem.W.codeIn K cd13 "number_of" = true) (k13 : PySem.W.keepIn K (.ref p13) = true)
    (a14 : PySem.W.nsIn K mainGlobals "standing" = some (some (.ref p14))) (l14 : K.lookup p14 = some ⟨oc14, od14, .func (PySem.W.fnOf "standing" "standing" (defArgs s_standing) (defBody s_standing) (defScope s_standing) .none kV14 dc14 pm14 an14 cd14 ct14), sl14⟩) (q14 : PySem.W.codeIn K cd14 "standing" = true) (k14 : PySem.W.keepIn K (.ref p14) = true)
    (a15 : PySem.W.nsIn K mainGlobals "exchanges" = some (some (.ref p15))) (l15 : K.lookup p15 = some ⟨oc15, od15, .func (PySem.W.fnOf "exchanges" "exchanges" (defArgs s_exchanges) (defBody s_exchanges) (defScope s_exchanges) .none kV15 dc15 pm15 an15 cd15 ct15), sl15⟩) (q15 : PySem.W.codeIn K cd15 "exchanges" = true) (k15 : PySem.W.keepIn K (.ref p15) = true)
    (a16 : PySem.W.nsIn K mainGlobals "_law_cell_at" = some (some (.ref p16))) (l16 : K.lookup p16 = some ⟨oc16, od16, .func (PySem.W.fnOf "_law_cell_at" "_law_cell_at" (defArgs s__law_cell_at) (defBody s__law_cell_at) (defScope s__law_cell_at) .none kV16 dc16 pm16 an16 cd16 ct16), sl16⟩) (q16 : PySem.W.codeIn K cd16 "_law_cell_at" = true) (k16 : PySem.W.keepIn K (.ref p16) = true)
    (a17 : PySem.W.nsIn K mainGlobals "_law_mixed" = some (some (.ref p17))) (l17 : K.lookup p17 = some ⟨oc17, od17, .func (PySem.W.fnOf "_law_mixed" "_law_mixed" (defArgs s__law_mixed) (defBody s__law_mixed) (defScope s__law_mixed) .none kV17 dc17 pm17 an17 cd17 ct17), sl17⟩) (q17 : PySem.W.codeIn K cd17 "_law_mixed" = true) (k17 : PySem.W.keepIn K (.ref p17) = true)
    (a18 : PySem.W.nsIn K mainGlobals "_law_tree" = some (some (.ref p18))) (l18 : K.lookup p18 = some ⟨oc18, od18, .func (PySem.W.fnOf "_law_tree" "_law_tree" (defArgs s__law_tree) (defBody s__law_tree) (defScope s__law_tree) .none kV18 dc18 pm18 an18 cd18 ct18), sl18⟩) (q18 : PySem.W.codeIn K cd18 "_law_tree" = true) (k18 : PySem.W.keepIn K (.ref p18) = true)
    (a19 : PySem.W.nsIn K mainGlobals "_law_net" = some (some (.ref p19))) (l19 : K.lookup p19 = some ⟨oc19, od19, .func (PySem.W.fnOf "_law_net" "_law_net" (defArgs s__law_net) (defBody s__law_net) (defScope s__law_net) .none kV19 dc19 pm19 an19 cd19 ct19), sl19⟩) (q19 : PySem.W.codeIn K cd19 "_law_net" = true) (k19 : PySem.W.keepIn K (.ref p19) = true)
    (a20 : PySem.W.nsIn K mainGlobals "_law_bad_tie" = some (some (.ref p20))) (l20 : K.lookup p20 = some ⟨oc20, od20, .func (PySem.W.fnOf "_law_bad_tie" "_law_bad_tie" (defArgs s__law_bad_tie) (defBody s__law_bad_tie) (defScope s__law_bad_tie) .none kV20 dc20 pm20 an20 cd20 ct20), sl20⟩) (q20 : PySem.W.codeIn K cd20 "_law_bad_tie" = true) (k20 : PySem.W.keepIn K (.ref p20) = true)
    (a21 : PySem.W.nsIn K mainGlobals "_law_spoilt" = some (some (.ref p21))) (l21 : K.lookup p21 = some ⟨oc21, od21, .func (PySem.W.fnOf "_law_spoilt" "_law_spoilt" (defArgs s__law_spoilt) (defBody s__law_spoilt) (defScope s__law_spoilt) .none kV21 dc21 pm21 an21 cd21 ct21), sl21⟩) (q21 : PySem.W.codeIn K cd21 "_law_spoilt" = true) (k21 : PySem.W.keepIn K (.ref p21) = true)
    (a22 : PySem.W.nsIn K mainGlobals "_law_asked" = some (some (.ref p22))) (l22 : K.lookup p22 = some ⟨oc22, od22, .func (PySem.W.fnOf "_law_asked" "_law_asked" (defArgs s__law_asked) (defBody s__law_asked) (defScope s__law_asked) .none kV22 dc22 pm22 an22 cd22 ct22), sl22⟩) (q22 : PySem.W.codeIn K cd22 "_law_asked" = true) (k22 : PySem.W.keepIn K (.ref p22) = true)
    (a23 : PySem.W.nsIn K mainGlobals "_law_refused" = some (some (.ref p23))) (l23 : K.lookup p23 = some ⟨oc23, od23, .func (PySem.W.fnOf "_law_refused" "_law_refused" (defArgs s__law_refused) (defBody s__law_refused) (defScope s__law_refused) .none kV23 dc23 pm23 an23 cd23 ct23), sl23⟩) (q23 : PySem.W.codeIn K cd23 "_law_refused" = true) (k23 : PySem.W.keepIn K (.ref p23) = true)
    (a24 : PySem.W.nsIn K mainGlobals "law" = some (some (.ref p24))) (l24 : K.lookup p24 = some ⟨oc24, od24, .func (PySem.W.fnOf "law" "law" (defArgs s_law) (defBody s_law) (defScope s_law) .none kV24 dc24 pm24 an24 cd24 ct24), sl24⟩) (q24 : PySem.W.codeIn K cd24 "law" = true) (k24 : PySem.W.keepIn K (.ref p24) = true)
    (y_type : PySem.W.nsIn K mainGlobals "type" = some none)
    (y_int : PySem.W.nsIn K mainGlobals "int" = some none)
    (y_len : PySem.W.nsIn K mainGlobals "len" = some none)
    (y_tuple : PySem.W.nsIn K mainGlobals "tuple" = some none)
    (y_list : PySem.W.nsIn K mainGlobals "list" = some none)
    (y_range : PySem.W.nsIn K mainGlobals "range" = some none)
    (y_isinstance : PySem.W.nsIn K mainGlobals "isinstance" = some none)
    (y_str : PySem.W.nsIn K mainGlobals "str" = some none)
    (x_MOST_TIES : PySem.W.nsIn K mainGlobals "MOST_TIES" = some (some (.int 16 t_MOST_TIES)))
    (x_MOST_PLACES : PySem.W.nsIn K mainGlobals "MOST_PLACES" = some (some (.int 7 t_MOST_PLACES)))
    {qBadTie qSelfTie qBadHanging qBadNumber qTooMany qBadNet qNetError : Addr} (n_BadTie : PySem.W.nsIn K mainGlobals "BadTie" = some (some (.ref qBadTie))) (d_BadTie : PySem.W.hasDictIn K qBadTie = true) (t_BadTie : PySem.W.typeIn K (.ref qBadTie) = some (.type "type")) (n_SelfTie : PySem.W.nsIn K mainGlobals "SelfTie" = some (some (.ref qSelfTie))) (d_SelfTie : PySem.W.hasDictIn K qSelfTie = true) (t_SelfTie : PySem.W.typeIn K (.ref qSelfTie) = some (.type "type")) (n_BadHanging : PySem.W.nsIn K mainGlobals "BadHanging" = some (some (.ref qBadHanging))) (d_BadHanging : PySem.W.hasDictIn K qBadHanging = true) (t_BadHanging : PySem.W.typeIn K (.ref qBadHanging) = some (.type "type")) (n_BadNumber : PySem.W.nsIn K mainGlobals "BadNumber" = some (some (.ref qBadNumber))) (d_BadNumber : PySem.W.hasDictIn K qBadNumber = true) (t_BadNumber : PySem.W.typeIn K (.ref qBadNumber) = some (.type "type")) (n_TooMany : PySem.W.nsIn K mainGlobals "TooMany" = some (some (.ref qTooMany))) (d_TooMany : PySem.W.hasDictIn K qTooMany = true) (t_TooMany : PySem.W.typeIn K (.ref qTooMany) = some (.type "type")) (n_BadNet : PySem.W.nsIn K mainGlobals "BadNet" = some (some (.ref qBadNet))) (d_BadNet : PySem.W.hasDictIn K qBadNet = true) (t_BadNet : PySem.W.typeIn K (.ref qBadNet) = some (.type "type")) (n_NetError : PySem.W.nsIn K mainGlobals "NetError" = some (some (.ref qNetError))) (d_NetError : PySem.W.hasDictIn K qNetError = true) (t_NetError : PySem.W.typeIn K (.ref qNetError) = some (.type "type")) (n_VE : PySem.W.nsIn K mainGlobals "ValueError" = some none) (s_NE : PySem.W.subIn K (.ref qNetError) (.type "BaseException") = some true) (sn : PySem.W.specialIn K (.builtin "object.__class__") "__get__" = some (some (.builtin "getset_descriptor.__get__"))) (st : PySem.W.takesIn K (.builtin "object.__class__") = some true) (x_BadNet : PySem.W.excIn K qBadNet [.type "ValueError", .type "Exception", .type "BaseException", .type "object"] "ValueError.__new__" = true) (k_BadNet : PySem.W.keepIn K (.ref qBadNet) = true) (b_BadNet : PySem.W.subIn K (.ref qBadNet) (.type "BaseException") = some true) (v_BadNet : PySem.W.subIn K (.ref qBadNet) (.type "ValueError") = some true) (g_BadNet : PySem.W.findIn K (.ref qBadNet) "__getattribute__" = some (some (.builtin "BaseException.__getattribute__"))) (h_BadNet : PySem.W.findIn K (.ref qBadNet) "__getattr__" = some none) (a_BadNet : PySem.W.findIn K (.ref qBadNet) "__class__" = some (some (.builtin "object.__class__"))) (m_BadNet : PySem.W.mroIn K qBadNet (.type "object") = some true) (s_BadNet_BadTie : PySem.W.subIn K (.ref qBadNet) (.ref qBadTie) = some false) (e_BadNet_BadTie : (Value.ref qBadNet == Value.ref qBadTie) = false) (s_BadNet_SelfTie : PySem.W.subIn K (.ref qBadNet) (.ref qSelfTie) = some false) (e_BadNet_SelfTie : (Value.ref qBadNet == Value.ref qSelfTie) = false) (s_BadNet_BadHanging : PySem.W.subIn K (.ref qBadNet) (.ref qBadHanging) = some false) (e_BadNet_BadHanging : (Value.ref qBadNet == Value.ref qBadHanging) = false) (s_BadNet_BadNumber : PySem.W.subIn K (.ref qBadNet) (.ref qBadNumber) = some false) (e_BadNet_BadNumber : (Value.ref qBadNet == Value.ref qBadNumber) = false) (s_BadNet_TooMany : PySem.W.subIn K (.ref qBadNet) (.ref qTooMany) = some false) (e_BadNet_TooMany : (Value.ref qBadNet == Value.ref qTooMany) = false) (s_BadNet_BadNet : PySem.W.subIn K (.ref qBadNet) (.ref qBadNet) = some true) (s_BadNet_NetError : PySem.W.subIn K (.ref qBadNet) (.ref qNetError) = some true) :
    ∃ fd : FuncData, (∀ (s : Shared) (v : Value), BindsTo s fd ⟨[v], []⟩ [("_law_script", v)]) ∧ ∀ base : Heap, K.In base → base.Ns mainGlobals mg → EnterOk l.prog w K mg base fa fd ["_law_script"] (spLaw K) := by
  have e := hfa.symm.trans (PySem.W.mg_of X G a24)
  cases e
  have z_type := PySem.W.mg_none_of X G y_type
  have z_int := PySem.W.mg_none_of X G y_int
  have z_len := PySem.W.mg_none_of X G y_len
  have z_tuple := PySem.W.mg_none_of X G y_tuple
  have z_list := PySem.W.mg_none_of X G y_list
  have z_range := PySem.W.mg_none_of X G y_range
  have z_isinstance := PySem.W.mg_none_of X G y_isinstance
  have z_str := PySem.W.mg_none_of X G y_str
  have c_MOST_TIES := PySem.W.mg_of X G x_MOST_TIES
  have c_MOST_PLACES := PySem.W.mg_of X G x_MOST_PLACES
  have F_is_whole := fun_mk (st := s_is_whole) l0 q0 k0
  have b_is_whole := F_is_whole.binds (ps := ["value", "least", "most"]) fun _ _ _ _ _ _ us hl => match us, hl with | [_, _, _], _ => rfl
  have F__is_tie := fun_mk (st := s__is_tie) l1 q1 k1
  have b__is_tie := F__is_tie.binds (ps := ["many", "tie"]) fun _ _ _ _ _ _ us hl => match us, hl with | [_, _], _ => rfl
  have F_need_net := fun_mk (st := s_need_net) l2 q2 k2
  have b_need_net := F_need_net.binds (ps := ["many", "ties"]) fun _ _ _ _ _ _ us hl => match us, hl with | [_, _], _ => rfl
  have F_parts_of := fun_mk (st := s_parts_of) l3 q3 k3
  have b_parts_of := F_parts_of.binds (ps := ["many", "ties"]) fun _ _ _ _ _ _ us hl => match us, hl with | [_, _], _ => rfl
  have F_hangs := fun_mk (st := s_hangs) l4 q4 k4
  have b_hangs := F_hangs.binds (ps := ["many", "ties"]) fun _ _ _ _ _ _ us hl => match us, hl with | [_, _], _ => rfl
  have F__need_tie := fun_mk (st := s__need_tie) l5 q5 k5
  have b__need_tie := F__need_tie.binds (ps := ["many", "ties", "tie"]) fun _ _ _ _ _ _ us hl => match us, hl with | [_, _, _], _ => rfl
  have F_net_without := fun_mk (st := s_net_without) l6 q6 k6
  have b_net_without := F_net_without.binds (ps := ["many", "ties", "tie"]) fun _ _ _ _ _ _ us hl => match us, hl with | [_, _, _], _ => rfl
  have F_net_together := fun_mk (st := s_net_together) l7 q7 k7
  have b_net_together := F_net_together.binds (ps := ["many", "ties", "tie"]) fun _ _ _ _ _ _ us hl => match us, hl with | [_, _, _], _ => rfl
  have F_table_of := fun_mk (st := s_table_of) l8 q8 k8
  have b_table_of := F_table_of.binds (ps := ["many", "ties"]) fun _ _ _ _ _ _ us hl => match us, hl with | [_, _], _ => rfl
  have F_tally := fun_mk (st := s_tally) l9 q9 k9
  have b_tally := F_tally.binds (ps := ["many", "ties"]) fun _ _ _ _ _ _ us hl => match us, hl with | [_, _], _ => rfl
  have F_is_hanging := fun_mk (st := s_is_hanging) l10 q10 k10
  have b_is_hanging := F_is_hanging.binds (ps := ["many", "ties", "some"]) fun _ _ _ _ _ _ us hl => match us, hl with | [_, _, _], _ => rfl
  have F_all_hangings := fun_mk (st := s_all_hangings) l11 q11 k11
  have b_all_hangings := F_all_hangings.binds (ps := ["many", "ties", "most"]) fun _ _ _ _ _ _ us hl => match us, hl with | [_, _, _], _ => rfl
  have F_hanging_of := fun_mk (st := s_hanging_of) l12 q12 k12
  have b_hanging_of := F_hanging_of.binds (ps := ["many", "ties", "number"]) fun _ _ _ _ _ _ us hl => match us, hl with | [_, _, _], _ => rfl
  have F_number_of := fun_mk (st := s_number_of) l13 q13 k13
  have b_number_of := F_number_of.binds (ps := ["many", "ties", "some"]) fun _ _ _ _ _ _ us hl => match us, hl with | [_, _, _], _ => rfl
  have F_standing := fun_mk (st := s_standing) l14 q14 k14
  have b_standing := F_standing.binds (ps := ["many", "ties"]) fun _ _ _ _ _ _ us hl => match us, hl with | [_, _], _ => rfl
  have F_exchanges := fun_mk (st := s_exchanges) l15 q15 k15
  have b_exchanges := F_exchanges.binds (ps := ["many", "ties", "one", "other"]) fun _ _ _ _ _ _ us hl => match us, hl with | [_, _, _, _], _ => rfl
  have F__law_cell_at := fun_mk (st := s__law_cell_at) l16 q16 k16
  have b__law_cell_at := F__law_cell_at.binds (ps := ["_law_script", "_law_k"]) fun _ _ _ _ _ _ us hl => match us, hl with | [_, _], _ => rfl
  have F__law_mixed := fun_mk (st := s__law_mixed) l17 q17 k17
  have b__law_mixed := F__law_mixed.binds (ps := ["_law_script", "_law_k"]) fun _ _ _ _ _ _ us hl => match us, hl with | [_, _], _ => rfl
  have F__law_tree := fun_mk (st := s__law_tree) l18 q18 k18
  have b__law_tree := F__law_tree.binds (ps := ["_law_script", "_law_many"]) fun _ _ _ _ _ _ us hl => match us, hl with | [_, _], _ => rfl
  have F__law_net := fun_mk (st := s__law_net) l19 q19 k19
  have b__law_net := F__law_net.binds (ps := ["_law_script", "_law_most", "_law_room"]) fun _ _ _ _ _ _ us hl => match us, hl with | [_, _, _], _ => rfl
  have F__law_bad_tie := fun_mk (st := s__law_bad_tie) l20 q20 k20
  have b__law_bad_tie := F__law_bad_tie.binds (ps := ["_law_cell", "_law_many"]) fun _ _ _ _ _ _ us hl => match us, hl with | [_, _], _ => rfl
  have F__law_spoilt := fun_mk (st := s__law_spoilt) l21 q21 k21
  have b__law_spoilt := F__law_spoilt.binds (ps := ["_law_many", "_law_ties", "_law_way", "_law_cell"]) fun _ _ _ _ _ _ us hl => match us, hl with | [_, _, _, _], _ => rfl
  have F__law_asked := fun_mk (st := s__law_asked) l22 q22 k22
  have b__law_asked := F__law_asked.binds (ps := ["_law_which", "_law_many", "_law_ties", "_law_odd"]) fun _ _ _ _ _ _ us hl => match us, hl with | [_, _, _, _], _ => rfl
  have F__law_refused := fun_mk (st := s__law_refused) l23 q23 k23
  have b__law_refused := F__law_refused.binds (ps := ["_law_which", "_law_many", "_law_ties", "_law_odd"]) fun _ _ _ _ _ _ us hl => match us, hl with | [_, _, _, _], _ => rfl
  have F_law := fun_mk (st := s_law) l24 q24 k24
  refine ⟨PySem.W.fnOf "law" "law" (defArgs s_law) (defBody s_law) (defScope s_law) .none kV24 dc24 pm24 an24 cd24 ct24, fun s v => .of_eq rfl, fun base _ _ => ?_⟩
  have mE := PySem.W.mg_of X G n_NetError
  have CF_BadNet : ClsF K mg clsN "BadNet" qBadNet := by
    refine ⟨⟨PySem.W.mg_of X G n_BadNet, x_BadNet, k_BadNet, b_BadNet, t_BadNet⟩, ⟨g_BadNet, h_BadNet, b_BadNet, d_BadNet, a_BadNet, sn, st, m_BadNet⟩, fun NA h => ?_, ?_⟩
    · rw [mE] at h
      cases h
      exact PySem.W.exm_ref s_NE d_NetError t_NetError s_BadNet_NetError
    · refine List.forall_mem_cons.mpr ⟨?_, List.forall_mem_cons.mpr ⟨?_, List.forall_mem_cons.mpr ⟨?_, List.forall_mem_cons.mpr ⟨?_, List.forall_mem_cons.mpr ⟨?_, List.forall_mem_cons.mpr ⟨?_, List.forall_mem_cons.mpr ⟨?_, fun _ h => absurd h List.not_mem_nil⟩⟩⟩⟩⟩⟩⟩
      · exact ⟨_, .inl ⟨_, PySem.W.mg_of X G n_BadTie, rfl⟩, kit_own d_BadTie t_BadTie s_BadNet_BadTie (fun h => absurd (e_BadNet_BadTie.symm.trans h) Bool.false_ne_true)⟩
      · exact ⟨_, .inl ⟨_, PySem.W.mg_of X G n_SelfTie, rfl⟩, kit_own d_SelfTie t_SelfTie s_BadNet_SelfTie (fun h => absurd (e_BadNet_SelfTie.symm.trans h) Bool.false_ne_true)⟩
      · exact ⟨_, .inl ⟨_, PySem.W.mg_of X G n_BadHanging, rfl⟩, kit_own d_BadHanging t_BadHanging s_BadNet_BadHanging (fun h => absurd (e_BadNet_BadHanging.symm.trans h) Bool.false_ne_true)⟩
      · exact ⟨_, .inl ⟨_, PySem.W.mg_of X G n_BadNumber, rfl⟩, kit_own d_BadNumber t_BadNumber s_BadNet_BadNumber (fun h => absurd (e_BadNet_BadNumber.symm.trans h) Bool.false_ne_true)⟩
      · exact ⟨_, .inl ⟨_, PySem.W.mg_of X G n_TooMany, rfl⟩, kit_own d_TooMany t_TooMany s_BadNet_TooMany (fun h => absurd (e_BadNet_TooMany.symm.trans h) Bool.false_ne_true)⟩
      · exact ⟨_, .inl ⟨_, PySem.W.mg_of X G n_BadNet, rfl⟩, kit_own d_BadNet t_BadNet s_BadNet_BadNet (fun _ => rfl)⟩
      · exact ⟨_, .inr ⟨PySem.W.mg_none_of X G n_VE, "ValueError", by decide +kernel, rfl, by decide +kernel⟩, kit_val v_BadNet⟩
  have hC : AllC K mg clsN cod := fun c z h => by
    unfold cod at h
    split at h
    · rename_i e
      subst e
      exact ⟨_, CF_BadNet⟩
    cases h
  refine enter_all fun aS nsS sd gc hc hG hlen => ?_
  have h_is_whole := has_mk (PySem.W.mg_of X G a0) k0 b_is_whole (ok_is_whole (P := l.prog) (w := w) (base := base) F_is_whole z_type z_int)
  have h__is_tie := has_mk (PySem.W.mg_of X G a1) k1 b__is_tie (ok__is_tie (P := l.prog) (w := w) (base := base) F__is_tie h_is_whole z_len z_type z_tuple)
  have hX_need_net := hasX_mk (PySem.W.mg_of X G a2) k2 b_need_net (okX_need_net (P := l.prog) (w := w) (base := base) F_need_net hC h__is_tie h_is_whole z_len z_type z_list c_MOST_TIES c_MOST_PLACES)
  have h_need_net := has_mk (PySem.W.mg_of X G a2) k2 b_need_net (ok_need_net (P := l.prog) (w := w) (base := base) F_need_net h__is_tie h_is_whole z_len z_type z_list c_MOST_TIES c_MOST_PLACES)
  have hX_parts_of := hasX_mk (PySem.W.mg_of X G a3) k3 b_parts_of (okX_parts_of (P := l.prog) (w := w) (base := base) F_parts_of hX_need_net)
  have hX_hangs := hasX_mk (PySem.W.mg_of X G a4) k4 b_hangs (okX_hangs (P := l.prog) (w := w) (base := base) F_hangs hX_parts_of z_len)
  have hX__need_tie := hasX_mk (PySem.W.mg_of X G a5) k5 b__need_tie (okX__need_tie (P := l.prog) (w := w) (base := base) F__need_tie hX_need_net)
  have hX_net_without := hasX_mk (PySem.W.mg_of X G a6) k6 b_net_without (okX_net_without (P := l.prog) (w := w) (base := base) F_net_without hX__need_tie)
  have hX_net_together := hasX_mk (PySem.W.mg_of X G a7) k7 b_net_together (okX_net_together (P := l.prog) (w := w) (base := base) F_net_together hX_net_without)
  have hX_table_of := hasX_mk (PySem.W.mg_of X G a8) k8 b_table_of (okX_table_of (P := l.prog) (w := w) (base := base) F_table_of hX_need_net)
  have hX_tally := hasX_mk (PySem.W.mg_of X G a9) k9 b_tally (okX_tally (P := l.prog) (w := w) (base := base) F_tally hX_table_of)
  have hX_is_hanging := hasX_mk (PySem.W.mg_of X G a10) k10 b_is_hanging (okX_is_hanging (P := l.prog) (w := w) (base := base) F_is_hanging hX_need_net)
  have hX_all_hangings := hasX_mk (PySem.W.mg_of X G a11) k11 b_all_hangings (okX_all_hangings (P := l.prog) (w := w) (base := base) F_all_hangings hX_tally)
  have hX_hanging_of := hasX_mk (PySem.W.mg_of X G a12) k12 b_hanging_of (okX_hanging_of (P := l.prog) (w := w) (base := base) F_hanging_of hX_tally h_is_whole)
  have hX_number_of := hasX_mk (PySem.W.mg_of X G a13) k13 b_number_of (okX_number_of (P := l.prog) (w := w) (base := base) F_number_of hX_is_hanging)
  have hX_standing := hasX_mk (PySem.W.mg_of X G a14) k14 b_standing (okX_standing (P := l.prog) (w := w) (base := base) F_standing hX_need_net)
  have hX_exchanges := hasX_mk (PySem.W.mg_of X G a15) k15 b_exchanges (okX_exchanges (P := l.prog) (w := w) (base := base) F_exchanges hX_is_hanging)
  have h__law_cell_at := has_mk (PySem.W.mg_of X G a16) k16 b__law_cell_at (ok__law_cell_at (P := l.prog) (w := w) (base := base) hG F__law_cell_at z_len)
  have h__law_mixed := has_mk (PySem.W.mg_of X G a17) k17 b__law_mixed (ok__law_mixed (P := l.prog) (w := w) (base := base) F__law_mixed h__law_cell_at)
  have h__law_tree := has_mk (PySem.W.mg_of X G a18) k18 b__law_tree (ok__law_tree (P := l.prog) (w := w) (base := base) F__law_tree h__law_mixed z_range)
  have h__law_net := has_mk (PySem.W.mg_of X G a19) k19 b__law_net (ok__law_net (P := l.prog) (w := w) (base := base) F__law_net h__law_mixed h__law_tree z_len z_range)
  have h__law_bad_tie := has_mk (PySem.W.mg_of X G a20) k20 b__law_bad_tie (ok__law_bad_tie (P := l.prog) (w := w) (base := base) F__law_bad_tie )
  have h__law_spoilt := has_mk (PySem.W.mg_of X G a21) k21 b__law_spoilt (ok__law_spoilt (P := l.prog) (w := w) (base := base) F__law_spoilt h__law_bad_tie z_len z_tuple)
  have h__law_asked := hasX_mk (PySem.W.mg_of X G a22) k22 b__law_asked (ok__law_asked (P := l.prog) (w := w) (base := base) F__law_asked hC hX_need_net hX_parts_of hX_hangs hX_net_without hX_net_together hX_table_of hX_tally hX_is_hanging hX_all_hangings hX_hanging_of hX_number_of hX_standing hX_exchanges)
  have h__law_refused := has_mk (PySem.W.mg_of X G a23) k23 b__law_refused (ok__law_refused (P := l.prog) (w := w) (base := base) F__law_refused hC mE h__law_asked z_isinstance)
  obtain ⟨fr, hg⟩ := g_law_true hc
  exact enter_scr (ok_law F_law h__law_refused h__law_bad_tie h__law_spoilt h_need_net h__law_mixed h__law_net z_str z_len z_list) hg
end Kx
open PySem PySem.W PyProof.Rows
set_option maxRecDepth 100000 in
set_option maxHeartbeats 0 in
theorem PySem.Challenge.cw_treetally_k02_what_is_no_net_holds : PySem.Challenge.rw_treetally_k02_what_is_no_net.Holds := by
  w_on; o_law; k_head; (case hw => w_witness2)
  k_fill
  refine Fw.walk_in (l := PySem.Challenge.rw_treetally_k02_what_is_no_net) (n := 63) (x := "_law_script") (sp := fun w => Fw.spLaw _) rfl (by decide) rfl (fun w h Y => PySem.W.kIn_of Y) ?F (fun _ _ a ns hl hO hS => ⟨a, ns, rfl, Fw.scr_of hO hS, hl, fun _ => rfl⟩)
  case F =>
    intro w mg fa h KX G hmg
    refine' Kx.all_mk KX G hmg ?a0 ?l0 ?q0 ?k0 ?a1 ?l1 ?q1 ?k1 ?a2 ?l2 ?q2 ?k2 ?a3 ?l3 ?q3 ?k3 ?a4 ?l4 ?q4 ?k4 ?a5 ?l5 ?q5 ?k5 ?a6 ?l6 ?q6 ?k6 ?a7 ?l7 ?q7 ?k7 ?a8 ?l8 ?q8 ?k8 ?a9 ?l9 ?q9 ?k9 ?a10 ?l10 ?q10 ?k10 ?a11 ?l11 ?q11 ?k11 ?a12 ?l12 ?q12 ?k12 ?a13 ?l13 ?q13 ?k13 ?a14 ?l14 ?q14 ?k14 ?a15 ?l15 ?q15 ?k15 ?a16 ?l16 ?q16 ?k16 ?a17 ?l17 ?q17 ?k17 ?a18 ?l18 ?q18 ?k18 ?a19 ?l19 ?q19 ?k19 ?a20 ?l20 ?q20 ?k20 ?a21 ?l21 ?q21 ?k21 ?a22 ?l22 ?q22 ?k22 ?a23 ?l23 ?q23 ?k23 ?a24 ?l24 ?q24 ?k24 ?y_type ?y_int ?y_len ?y_tuple ?y_list ?y_range ?y_isinstance ?y_str ?x_MOST_TIES ?x_MOST_PLACES ?n_BadTie ?d_BadTie ?t_BadTie ?n_SelfTie ?d_SelfTie ?t_SelfTie ?n_BadHanging ?d_BadHanging ?t_BadHanging ?n_BadNumber ?d_BadNumber ?t_BadNumber ?n_TooMany ?d_TooMany ?t_TooMany ?n_BadNet ?d_BadNet ?t_BadNet ?n_NetError ?d_NetError ?t_NetError ?n_VE ?s_NE ?sn ?st ?x_BadNet ?k_BadNet ?b_BadNet ?v_BadNet ?g_BadNet ?h_BadNet ?a_BadNet ?m_BadNet ?s_BadNet_BadTie ?e_BadNet_BadTie ?s_BadNet_SelfTie ?e_BadNet_SelfTie ?s_BadNet_BadHanging ?e_BadNet_BadHanging ?s_BadNet_BadNumber ?e_BadNet_BadNumber ?s_BadNet_TooMany ?e_BadNet_TooMany ?s_BadNet_BadNet ?s_BadNet_NetError
    (case a0 => k_is)
    (case l0 => k_is)
    (case q0 => k_is)
    (case k0 => k_is)
    (case a1 => k_is)
    (case l1 => k_is)
    (case q1 => k_is)
    (case k1 => k_is)
    (case a2 => k_is)
    (case l2 => k_is)
    (case q2 => k_is)
    (case k2 => k_is)
    (case a3 => k_is)
    (case l3 => k_is)
    (case q3 => k_is)
    (case k3 => k_is)
    (case a4 => k_is)
    (case l4 => k_is)
    (case q4 => k_is)
    (case k4 => k_is)
    (case a5 => k_is)
    (case l5 => k_is)
    (case q5 => k_is)
    (case k5 => k_is)
    (case a6 => k_is)
    (case l6 => k_is)
    (case q6 => k_is)
    (case k6 => k_is)
    (case a7 => k_is)
    (case l7 => k_is)
    (case q7 => k_is)
    (case k7 => k_is)
    (case a8 => k_is)
    (case l8 => k_is)
    (case q8 => k_is)
    (case k8 => k_is)
    (case a9 => k_is)
    (case l9 => k_is)
    (case q9 => k_is)
    (case k9 => k_is)
    (case a10 => k_is)
    (case l10 => k_is)
    (case q10 => k_is)
    (case k10 => k_is)
    (case a11 => k_is)
    (case l11 => k_is)
    (case q11 => k_is)
    (case k11 => k_is)
    (case a12 => k_is)
    (case l12 => k_is)
    (case q12 => k_is)
    (case k12 => k_is)
    (case a13 => k_is)
    (case l13 => k_is)
    (case q13 => k_is)
    (case k13 => k_is)
    (case a14 => k_is)
    (case l14 => k_is)
    (case q14 => k_is)
    (case k14 => k_is)
    (case a15 => k_is)
    (case l15 => k_is)
    (case q15 => k_is)
    (case k15 => k_is)
    (case a16 => k_is)
    (case l16 => k_is)
    (case q16 => k_is)
    (case k16 => k_is)
    (case a17 => k_is)
    (case l17 => k_is)
    (case q17 => k_is)
    (case k17 => k_is)
    (case a18 => k_is)
    (case l18 => k_is)
    (case q18 => k_is)
    (case k18 => k_is)
    (case a19 => k_is)
    (case l19 => k_is)
    (case q19 => k_is)
    (case k19 => k_is)
    (case a20 => k_is)
    (case l20 => k_is)
    (case q20 => k_is)
    (case k20 => k_is)
    (case a21 => k_is)
    (case l21 => k_is)
    (case q21 => k_is)
    (case k21 => k_is)
    (case a22 => k_is)
    (case l22 => k_is)
    (case q22 => k_is)
    (case k22 => k_is)
    (case a23 => k_is)
    (case l23 => k_is)
    (case q23 => k_is)
    (case k23 => k_is)
    (case a24 => k_is)
    (case l24 => k_is)
    (case q24 => k_is)
    (case k24 => k_is)
    (case y_type => k_is)
    (case y_int => k_is)
    (case y_len => k_is)
    (case y_tuple => k_is)
    (case y_list => k_is)
    (case y_range => k_is)
    (case y_isinstance => k_is)
    (case y_str => k_is)
    (case x_MOST_TIES => k_is)
    (case x_MOST_PLACES => k_is)
    (case n_BadTie => k_is)
    (case d_BadTie => k_is)
    (case t_BadTie => k_is)
    (case n_SelfTie => k_is)
    (case d_SelfTie => k_is)
    (case t_SelfTie => k_is)
    (case n_BadHanging => k_is)
    (case d_BadHanging => k_is)
    (case t_BadHanging => k_is)
    (case n_BadNumber => k_is)
    (case d_BadNumber => k_is)
    (case t_BadNumber => k_is)
    (case n_TooMany => k_is)
    (case d_TooMany => k_is)
    (case t_TooMany => k_is)
    (case n_BadNet => k_is)
    (case d_BadNet => k_is)
    (case t_BadNet => k_is)
    (case n_NetError => k_is)
    (case d_NetError => k_is)
    (case t_NetError => k_is)
    (case n_VE => k_is)
    (case s_NE => k_is)
    (case sn => k_is)
    (case st => k_is)
    (case x_BadNet => k_exc)
    (case k_BadNet => k_is)
    (case b_BadNet => k_is)
    (case v_BadNet => k_is)
    (case g_BadNet => k_is)
    (case h_BadNet => k_is)
    (case a_BadNet => k_is)
    (case m_BadNet => k_is)
    (case s_BadNet_BadTie => k_is)
    (case e_BadNet_BadTie => first | rfl | decide)
    (case s_BadNet_SelfTie => k_is)
    (case e_BadNet_SelfTie => first | rfl | decide)
    (case s_BadNet_BadHanging => k_is)
    (case e_BadNet_BadHanging => first | rfl | decide)
    (case s_BadNet_BadNumber => k_is)
    (case e_BadNet_BadNumber => first | rfl | decide)
    (case s_BadNet_TooMany => k_is)
    (case e_BadNet_TooMany => first | rfl | decide)
    (case s_BadNet_BadNet => k_is)
    (case s_BadNet_NetError => k_is)
