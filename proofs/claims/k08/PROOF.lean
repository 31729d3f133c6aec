import PyProof.Rows.All
import Wide.All
import OpenK.AllK
import Wide.FinOn
import PyProof.EqAt
import PyProof.EqKinds
import PyProof.TupleCall
import HandS.Base
import HandS.Call
import HandS.List
import HandS.Comp
import HandS.Ends
import HandS.Exc
import HandS.ExcOwn
import HandS.TryOnly
import HandS.Words
import HandS.WordsExc
import HandS.Zip
import HandS.Conv
import HandS.IsInst
import HandS.TupMul
import HandS.TupAny
import HandS.Defaults
import HandS.SetFor
import HandS.ExcIs
import HandS.SortOrd
import HandS.TupSets
import HandS.More
import HandS.Dict
import HandS.Deep
import HandS.Star
import HandS.Set
import PyProof.FactsAll.set_1
import KE.GoesSet
import HandS.Iter
import HandS.Rev
import HandS.Style
import KE.KStrOpen
import HandS.SetKeys
import HandS.Text
import PyProof.Rows.StrCase
import PyProof.Rows.StrFit
import PyProof.StrOps2
import PyProof.Rows.SortShellAny
import HandS.Codes
import HandS.Steps
import HandS.TupLen
import Lean
import HandS.Head0
import HandS.Head1
import HandS.Head2
import HandS.HeadEnd
import HandS.HeadHook1
import HandS.HeadHook2
import HandS.HeadHook3
import HandS.HeadHook4
import KE.KStateDown
import PySem.Challenge.RW_siblingshelf_k08_whole_just_the_unseen
set_option Elab.async false
set_option linter.all false
set_option maxRecDepth 100000
set_option autoImplicit false
set_option maxHeartbeats 2000000
/-! Data over the hand layer: what an expression, a statement, a def is worth as plain data, whatever the heap. -/
namespace DL
open PySem PySem.Spec PyProof.Rows L2

/-- a datum: a value as it is; a tuple, a list that nobody changes any more; the n-th of the things that may change -/
inductive D where
  | v (x : V)
  | tup (ds : List D)
  | lst (ds : List D)
  | res (n : Nat)
/-- a thing that may change -/
inductive MO where
  | lst (ds : List D)
  | dK (kvs : List (Key × D))
  | dT (kvs : List (List Key × D))
  | ins (C : Addr) (fs : List (Str × D))
  | fz (kvs : List (Key × D)) (o : HO)
abbrev Mem := List MO
abbrev DS := List (Option D)
/-- where the changing things stand; what is known for ever -/
structure Wd where
  ρ : List Addr
  F : Hp
structure Wd.le (w w' : Wd) : Prop where
  pre : ∃ l, w'.ρ = w.ρ ++ l
  same : Same w.F w'.F
theorem Wd.le.refl (w : Wd) : w.le w := ⟨⟨[], by simp⟩, Same.refl _⟩
theorem Wd.le.trans {a b c : Wd} (h : a.le b) (h' : b.le c) : a.le c := by
  obtain ⟨l, e⟩ := h.pre
  obtain ⟨l', e'⟩ := h'.pre
  exact ⟨⟨l ++ l', by rw [e', e, List.append_assoc]⟩, h.same.trans h'.same⟩
theorem Wd.le.at {w w' : Wd} (h : w.le w') {n : Nat} {p : Addr} (e : w.ρ[n]? = some p) : w'.ρ[n]? = some p := by
  obtain ⟨l, q⟩ := h.pre
  rw [q, List.getElem?_append_left (List.getElem?_eq_some_iff.mp e).1]
  exact e
theorem same_l {K : PySem.W.Frag} {H H' : Hp} {a : Addr} {xs : List V} (e : Same H H') (h : SqL K H a xs) : SqL K H' a xs := e.seq h
theorem same_t {K : PySem.W.Frag} {H H' : Hp} {a : Addr} {xs : List V} (e : Same H H') (h : SqT K H a xs) : SqT K H' a xs := by
  rcases h with (h | ⟨o, h⟩) | h
  · exact .inl (.inl (e _ _ h))
  · exact .inl (.inr ⟨o, e _ _ h⟩)
  · exact .inr h

mutual
def Rep (K : PySem.W.Frag) (w : Wd) : D → V → Prop
  | .v x, y => y = x
  | .tup ds, y => ∃ p vs, y = .ref p ∧ w.F p = some (.tup vs) ∧ Reps K w ds vs
  | .lst ds, y => ∃ p vs, y = .ref p ∧ SqL K w.F p vs ∧ Reps K w ds vs
  | .res n, y => ∃ p, w.ρ[n]? = some p ∧ y = .ref p
def Reps (K : PySem.W.Frag) (w : Wd) : List D → List V → Prop
  | [], vs => vs = []
  | d :: ds, vs => ∃ y ys, vs = y :: ys ∧ Rep K w d y ∧ Reps K w ds ys
end
section
variable {K : PySem.W.Frag} {w w' : Wd}
mutual
theorem Rep.mono (l : w.le w') : ∀ {d : D} {y : V}, Rep K w d y → Rep K w' d y
  | .v x, y, h => by
    unfold Rep at h ⊢
    exact h
  | .tup ds, y, h => by
    unfold Rep at h ⊢
    obtain ⟨p, vs, e, s, r⟩ := h
    exact ⟨p, vs, e, l.same _ _ s, Reps.mono l r⟩
  | .lst ds, y, h => by
    unfold Rep at h ⊢
    obtain ⟨p, vs, e, s, r⟩ := h
    exact ⟨p, vs, e, same_l l.same s, Reps.mono l r⟩
  | .res n, y, h => by
    unfold Rep at h ⊢
    obtain ⟨p, e, r⟩ := h
    exact ⟨p, l.at e, r⟩
theorem Reps.mono (l : w.le w') : ∀ {ds : List D} {vs : List V}, Reps K w ds vs → Reps K w' ds vs
  | [], vs, h => by
    unfold Reps at h ⊢
    exact h
  | d :: ds, vs, h => by
    unfold Reps at h ⊢
    obtain ⟨y, ys, e, r, s⟩ := h
    exact ⟨y, ys, e, Rep.mono l r, Reps.mono l s⟩
end
theorem rep_v {x y : V} : Rep K w (.v x) y ↔ y = x := by unfold Rep; exact Iff.rfl
theorem rep_v' {x : V} : Rep K w (.v x) x := rep_v.mpr rfl
theorem rep_tup {ds : List D} {y : V} : Rep K w (.tup ds) y ↔ ∃ p vs, y = .ref p ∧ w.F p = some (.tup vs) ∧ Reps K w ds vs := by
  conv => lhs; unfold Rep
theorem rep_lst {ds : List D} {y : V} : Rep K w (.lst ds) y ↔ ∃ p vs, y = .ref p ∧ SqL K w.F p vs ∧ Reps K w ds vs := by
  conv => lhs; unfold Rep
theorem rep_res {n : Nat} {y : V} : Rep K w (.res n) y ↔ ∃ p, w.ρ[n]? = some p ∧ y = .ref p := by
  conv => lhs; unfold Rep
theorem reps_nil {vs : List V} : Reps K w [] vs ↔ vs = [] := by unfold Reps; exact Iff.rfl
theorem reps_nil' : Reps K w [] [] := reps_nil.mpr rfl
theorem reps_cons {d : D} {ds : List D} {vs : List V} : Reps K w (d :: ds) vs ↔ ∃ y ys, vs = y :: ys ∧ Rep K w d y ∧ Reps K w ds ys := by
  conv => lhs; unfold Reps
theorem reps_cons' {d : D} {ds : List D} {y : V} {ys : List V} (h : Rep K w d y) (t : Reps K w ds ys) : Reps K w (d :: ds) (y :: ys) := reps_cons.mpr ⟨_, _, rfl, h, t⟩
theorem Reps.length : ∀ {ds : List D} {vs : List V}, Reps K w ds vs → vs.length = ds.length
  | [], vs, h => by rw [reps_nil] at h; subst h; rfl
  | d :: ds, vs, h => by
    rw [reps_cons] at h
    obtain ⟨y, ys, e, r, s⟩ := h
    subst e
    simp [Reps.length s]
theorem Reps.get : ∀ {ds : List D} {vs : List V} {i : Nat} {d : D}, Reps K w ds vs → ds[i]? = some d → ∃ y, vs[i]? = some y ∧ Rep K w d y
  | [], _, _, _, _, e => by simp at e
  | d :: ds, vs, i, d', h, e => by
    rw [reps_cons] at h
    obtain ⟨y, ys, rfl, r, s⟩ := h
    cases i with
    | zero => simp at e; subst e; exact ⟨y, rfl, r⟩
    | succ i => simpa using Reps.get s (i := i) (by simpa using e)
theorem Reps.get' : ∀ {ds : List D} {vs : List V} {i : Nat} {y : V}, Reps K w ds vs → vs[i]? = some y → ∃ d, ds[i]? = some d ∧ Rep K w d y
  | [], vs, i, y, h, e => by rw [reps_nil] at h; subst h; simp at e
  | d :: ds, vs, i, y', h, e => by
    rw [reps_cons] at h
    obtain ⟨y, ys, rfl, r, s⟩ := h
    cases i with
    | zero => simp at e; subst e; exact ⟨d, rfl, r⟩
    | succ i => simpa using Reps.get' s (i := i) (by simpa using e)
theorem Reps.append : ∀ {ds es : List D} {vs us : List V}, Reps K w ds vs → Reps K w es us → Reps K w (ds ++ es) (vs ++ us)
  | [], _, vs, _, h, h' => by rw [reps_nil] at h; subst h; exact h'
  | d :: ds, es, vs, us, h, h' => by
    rw [reps_cons] at h
    obtain ⟨y, ys, rfl, r, s⟩ := h
    exact reps_cons' r (Reps.append s h')
theorem Reps.set : ∀ {ds : List D} {vs : List V} (i : Nat) {d : D} {y : V}, Reps K w ds vs → Rep K w d y → Reps K w (ds.set i d) (vs.set i y)
  | [], vs, i, _, _, h, _ => by rw [reps_nil] at h; subst h; exact reps_nil'
  | d :: ds, vs, i, _, _, h, r' => by
    rw [reps_cons] at h
    obtain ⟨y, ys, rfl, r, s⟩ := h
    cases i with
    | zero => exact reps_cons' r' s
    | succ i => exact reps_cons' r (Reps.set i s r')
theorem Reps.take : ∀ {ds : List D} {vs : List V} (n : Nat), Reps K w ds vs → Reps K w (ds.take n) (vs.take n)
  | [], vs, n, h => by rw [reps_nil] at h; subst h; simp [reps_nil]
  | d :: ds, vs, 0, h => by simp [reps_nil]
  | d :: ds, vs, n + 1, h => by
    rw [reps_cons] at h
    obtain ⟨y, ys, rfl, r, s⟩ := h
    exact reps_cons' r (Reps.take n s)
theorem Reps.drop : ∀ {ds : List D} {vs : List V} (n : Nat), Reps K w ds vs → Reps K w (ds.drop n) (vs.drop n)
  | [], vs, n, h => by rw [reps_nil] at h; subst h; simp [reps_nil]
  | d :: ds, vs, 0, h => h
  | d :: ds, vs, n + 1, h => by
    rw [reps_cons] at h
    obtain ⟨y, ys, rfl, r, s⟩ := h
    exact Reps.drop n s
theorem reps_vs : ∀ {xs : List V} {vs : List V}, Reps K w (xs.map D.v) vs ↔ vs = xs
  | [], vs => reps_nil
  | x :: xs, vs => by
    rw [List.map_cons, reps_cons]
    constructor
    · rintro ⟨y, ys, rfl, r, s⟩
      rw [rep_v] at r
      rw [reps_vs] at s
      rw [r, s]
    · rintro rfl
      exact ⟨_, _, rfl, rep_v', reps_vs.mpr rfl⟩

/-- what a changing thing holds -/
def KVRep {κ : Type} (K : PySem.W.Frag) (w : Wd) (kvs : List (κ × D)) (ws : List (κ × V)) : Prop := ws.map (·.1) = kvs.map (·.1) ∧ Reps K w (kvs.map (·.2)) (ws.map (·.2))
def MRep (K : PySem.W.Frag) (w : Wd) : MO → HO → Prop
  | .lst ds, o => ∃ vs, o = .lst vs ∧ Reps K w ds vs
  | .dK kvs, o => ∃ ws, o = .dK ws ∧ KVRep K w kvs ws
  | .dT kvs, o => ∃ ws, o = .dT ws ∧ KVRep K w kvs ws
  | .ins C fs, o => ∃ dx gs, o = .ins C dx gs ∧ KVRep K w fs gs
  | .fz kvs o0, o => o = o0 ∧ ∃ od ws, o = .frz od (.dK ws) ∧ KVRep K w kvs ws
theorem MRep.mono (l : w.le w') : ∀ {mo : MO} {o : HO}, MRep K w mo o → MRep K w' mo o
  | .lst ds, o, ⟨vs, e, r⟩ => ⟨vs, e, r.mono l⟩
  | .dK kvs, o, ⟨ws, e, r1, r2⟩ => ⟨ws, e, r1, r2.mono l⟩
  | .dT kvs, o, ⟨ws, e, r1, r2⟩ => ⟨ws, e, r1, r2.mono l⟩
  | .ins C fs, o, ⟨dx, gs, e, r1, r2⟩ => ⟨dx, gs, e, r1, r2.mono l⟩
  | .fz kvs o0, o, ⟨e0, od, ws, e, r1, r2⟩ => ⟨e0, od, ws, e, r1, r2.mono l⟩
theorem MRep.notTup : ∀ {mo : MO} {vs : List V}, MRep K w mo (.tup vs) → False
  | .lst ds, vs, ⟨_, e, _⟩ => by cases e
  | .dK kvs, vs, ⟨_, e, _⟩ => by cases e
  | .dT kvs, vs, ⟨_, e, _⟩ => by cases e
  | .ins C fs, vs, ⟨_, _, e, _⟩ => by cases e
  | .fz kvs o0, vs, ⟨_, _, _, e, _⟩ => by cases e
end

structure SatM (K : PySem.W.Frag) (w : Wd) (H : Hp) (M : Mem) : Prop where
  same : Same w.F H
  len : w.ρ.length = M.length
  nd : w.ρ.Nodup
  at_ : ∀ (n : Nat) (p : Addr) (mo : MO), w.ρ[n]? = some p → M[n]? = some mo → w.F p = none ∧ ∃ o, H p = some o ∧ MRep K w mo o
structure RepS (K : PySem.W.Frag) (w : Wd) (S : DS) (σ : L2.St) : Prop where
  len : S.length ≤ σ.length
  get : ∀ (i : Nat) (d : D), S[i]? = some (some d) → ∃ y, σ[i]? = some (some y) ∧ Rep K w d y
section
variable {K : PySem.W.Frag} {w w' : Wd} {H H' : Hp} {M : Mem} {S : DS} {σ : L2.St} {p : Addr} {o : HO}
theorem RepS.mono (l : w.le w') (h : RepS K w S σ) : RepS K w' S σ := ⟨h.len, fun i d e => by
  obtain ⟨y, e1, r⟩ := h.get i d e
  exact ⟨y, e1, r.mono l⟩⟩
theorem RepS.set {i : Nat} {d : D} {y : V} (h : RepS K w S σ) (r : Rep K w d y) : RepS K w (S.set i (some d)) (σ.set i (some y)) := ⟨by simpa using h.len, fun j d' e => by
  by_cases hj : i = j
  · subst hj
    by_cases hi : i < S.length
    · rw [List.getElem?_set_self hi] at e
      cases e
      exact ⟨y, by rw [List.getElem?_set_self (Nat.lt_of_lt_of_le hi h.len)], r⟩
    · rw [List.getElem?_eq_none (by simpa using hi)] at e
      cases e
  · rw [List.getElem?_set_ne hj] at e ⊢
    exact h.get j d' e⟩
/-- a new frozen object -/
abbrev Wd.put (w : Wd) (p : Addr) (o : HO) : Wd := ⟨w.ρ, upd w.F p o⟩
theorem Wd.le_put (h : w.F p = none) : w.le (w.put p o) := ⟨⟨[], by simp⟩, fun b u e => by
  show upd w.F p o b = some u
  rw [upd_ne (ne_of_none e h)]; exact e⟩
theorem SatM.fz (h : SatM K w H M) (hp : H p = none) : w.F p = none := h.same.free hp
theorem SatM.new (h : SatM K w H M) (hp : H p = none) : SatM K (w.put p o) (upd H p o) M := by
  have l : w.le (w.put p o) := Wd.le_put (h.fz hp)
  refine ⟨fun b u e => ?_, h.len, h.nd, fun n q mo e1 e2 => ?_⟩
  · have e' : upd w.F p o b = some u := e
    by_cases hb : b = p
    · subst hb
      rw [upd_same] at e' ⊢; exact e'
    · rw [upd_ne hb] at e' ⊢
      exact h.same b u e'
  · obtain ⟨f, o', e3, r⟩ := h.at_ n q mo e1 e2
    have hq : q ≠ p := ne_of_none e3 hp
    refine ⟨by show upd w.F p o q = none; rw [upd_ne hq]; exact f, o', by rw [upd_ne hq]; exact e3, r.mono l⟩
/-- a new changing thing -/
abbrev Wd.add (w : Wd) (p : Addr) : Wd := ⟨w.ρ ++ [p], w.F⟩
theorem Wd.le_add : w.le (w.add p) := ⟨⟨[p], rfl⟩, Same.refl _⟩
theorem SatM.fresh_ρ (h : SatM K w H M) (hp : H p = none) : p ∉ w.ρ := fun hm => by
  obtain ⟨n, e⟩ := List.getElem?_of_mem hm
  have hn : n < M.length := by rw [← h.len]; exact (List.getElem?_eq_some_iff.mp e).1
  obtain ⟨_, o, e3, _⟩ := h.at_ n p M[n] e (List.getElem?_eq_getElem hn)
  rw [hp] at e3; cases e3
theorem SatM.add {mo : MO} (h : SatM K w H M) (hp : H p = none) (hm : MRep K (w.add p) mo o) : SatM K (w.add p) (upd H p o) (M ++ [mo]) := by
  refine ⟨fun b u e => ?_, by simp [h.len], ?_, fun n q mo' e1 e2 => ?_⟩
  · have e' : w.F b = some u := e
    rw [upd_ne (ne_of_none (h.same b u e') hp)]
    exact h.same b u e'
  · refine List.nodup_append.mpr ⟨h.nd, by simp, fun a ha b hb => ?_⟩
    have : b = p := by simpa using hb
    subst this
    exact fun e => h.fresh_ρ hp (e ▸ ha)
  · by_cases hn : n < M.length
    · rw [List.getElem?_append_left hn] at e2
      have e1' : w.ρ[n]? = some q := by
        have : (w.ρ ++ [p])[n]? = some q := e1
        rwa [List.getElem?_append_left (by rw [h.len]; exact hn)] at this
      obtain ⟨f, o', e3, r⟩ := h.at_ n q mo' e1' e2
      exact ⟨f, o', by rw [upd_ne (ne_of_none e3 hp)]; exact e3, r.mono Wd.le_add⟩
    · have hn' : n = M.length := by
        have := (List.getElem?_eq_some_iff.mp e2).1
        simp at this; omega
      subst hn'
      have e1' : (w.ρ ++ [p])[M.length]? = some q := e1
      rw [← h.len, List.getElem?_append_right (Nat.le_refl _)] at e1'
      simp at e1' e2
      subst e1' e2
      exact ⟨h.fz hp, o, upd_same, hm⟩
/-- a changing thing changes -/
theorem SatM.chg {n : Nat} {mo : MO} (h : SatM K w H M) (e1 : w.ρ[n]? = some p) (hm : MRep K w mo o) : SatM K w (upd H p o) (M.set n mo) := by
  have hn : n < M.length := by rw [← h.len]; exact (List.getElem?_eq_some_iff.mp e1).1
  obtain ⟨f, _⟩ := h.at_ n p M[n] e1 (List.getElem?_eq_getElem hn)
  refine ⟨fun b u e => ?_, by simp [h.len], h.nd, fun k q mo' e3 e4 => ?_⟩
  · rw [upd_ne (ne_of_none e f)]
    exact h.same b u e
  · by_cases hk : n = k
    · subst hk
      rw [e1] at e3; cases e3
      rw [List.getElem?_set_self hn] at e4; cases e4
      exact ⟨f, o, upd_same, hm⟩
    · rw [List.getElem?_set_ne hk] at e4
      obtain ⟨f', o', e5, r⟩ := h.at_ k q mo' e3 e4
      have hq : q ≠ p := fun z => hk (by
        subst z
        obtain ⟨h1, z1⟩ := List.getElem?_eq_some_iff.mp e1
        obtain ⟨h2, z2⟩ := List.getElem?_eq_some_iff.mp e3
        exact (List.getElem_inj h.nd).mp (z1.trans z2.symm))
      exact ⟨f', o', by rw [upd_ne hq]; exact e5, r⟩
theorem SatM.res {n : Nat} {mo : MO} (h : SatM K w H M) (e : M[n]? = some mo) : ∃ p o, w.ρ[n]? = some p ∧ H p = some o ∧ MRep K w mo o := by
  have hn : n < w.ρ.length := by rw [h.len]; exact (List.getElem?_eq_some_iff.mp e).1
  obtain ⟨_, o, e2, r⟩ := h.at_ n w.ρ[n] mo (List.getElem?_eq_getElem hn) e
  exact ⟨_, o, List.getElem?_eq_getElem hn, e2, r⟩
/-- the rest of the heap may be changed where neither the known nor the changing things stand -/
theorem SatM.tupH {ds : List D} {y : V} (h : SatM K w H M) (r : Rep K w (.tup ds) y) : ∃ p vs, y = .ref p ∧ SqT K H p vs ∧ Reps K w ds vs := by
  rw [rep_tup] at r
  obtain ⟨p, vs, e, s, r⟩ := r
  exact ⟨p, vs, e, .of (h.same _ _ s), r⟩
theorem SatM.tupX {ds : List D} {y : V} (h : SatM K w H M) (r : Rep K w (.tup ds) y) : ∃ p vs, y = .ref p ∧ H p = some (.tup vs) ∧ Reps K w ds vs := by
  rw [rep_tup] at r
  obtain ⟨p, vs, e, s, r⟩ := r
  exact ⟨p, vs, e, h.same _ _ s, r⟩
theorem SatM.lstH {ds : List D} {y : V} (h : SatM K w H M) (r : Rep K w (.lst ds) y) : ∃ p vs, y = .ref p ∧ SqL K H p vs ∧ Reps K w ds vs := by
  rw [rep_lst] at r
  obtain ⟨p, vs, e, s, r⟩ := r
  exact ⟨p, vs, e, same_l h.same s, r⟩
end

/-- from here to there: what was known stays, what is neither known nor changing stays too, what is new was nothing -/
structure Go (w : Wd) (H : Hp) (w' : Wd) (H' : Hp) : Prop where
  le : w.le w'
  keep : ∀ a o, H a = some o → a ∉ w.ρ → H' a = some o
  newR : ∀ p, p ∈ w'.ρ → p ∈ w.ρ ∨ H p = none
  newF : ∀ p o, w'.F p = some o → w.F p = some o ∨ H p = none ∨ p ∈ w.ρ ∨ ∃ vs, H p = some (.tup vs)
theorem Go.refl (w : Wd) {H : Hp} : Go w H w H := ⟨.refl w, fun _ _ e _ => e, fun _ h => .inl h, fun _ _ h => .inl h⟩
theorem Go.trans {w w1 w2 : Wd} {H H1 H2 : Hp} (a : Go w H w1 H1) (b : Go w1 H1 w2 H2) : Go w H w2 H2 := by
  have nr : ∀ p o, H p = some o → p ∉ w.ρ → p ∉ w1.ρ := fun p o e n m => by
    rcases a.newR p m with q | q
    · exact n q
    · rw [e] at q; cases q
  refine ⟨a.le.trans b.le, fun p o e n => b.keep p o (a.keep p o e n) (nr p o e n), fun p m => ?_, fun p o e => ?_⟩
  · rcases b.newR p m with q | q
    · exact a.newR p q
    · by_cases hn : p ∈ w.ρ
      · exact .inl hn
      · refine .inr ?_
        cases z : H p with
        | none => rfl
        | some o => rw [a.keep p o z hn] at q; cases q
  · have step : (∃ vs, H1 p = some (.tup vs)) → H p = none ∨ p ∈ w.ρ ∨ ∃ vs, H p = some (.tup vs) := fun ⟨vs, q⟩ => by
      by_cases hn : p ∈ w.ρ
      · exact .inr (.inl hn)
      · cases z : H p with
        | none => exact .inl rfl
        | some o =>
          have k := a.keep p o z hn
          rw [q] at k; cases k
          exact .inr (.inr ⟨vs, rfl⟩)
    rcases b.newF p o e with q | q | q | q
    · exact a.newF p o q
    · by_cases hn : p ∈ w.ρ
      · exact .inr (.inr (.inl hn))
      · refine .inr (.inl ?_)
        cases z : H p with
        | none => rfl
        | some o => rw [a.keep p o z hn] at q; cases q
    · rcases a.newR p q with z | z
      · exact .inr (.inr (.inl z))
      · exact .inr (.inl z)
    · exact .inr (step q)
theorem Rep.go {K : PySem.W.Frag} {w w' : Wd} {H H' : Hp} {d : D} {y : V} (r : Rep K w d y) (l : Go w H w' H') : Rep K w' d y := Rep.mono l.le r
theorem Reps.go {K : PySem.W.Frag} {w w' : Wd} {H H' : Hp} {d : List D} {y : List V} (r : Reps K w d y) (l : Go w H w' H') : Reps K w' d y := Reps.mono l.le r
theorem RepS.go {K : PySem.W.Frag} {w w' : Wd} {H H' : Hp} {d : DS} {y : L2.St} (r : RepS K w d y) (l : Go w H w' H') : RepS K w' d y := RepS.mono l.le r
theorem MRep.go {K : PySem.W.Frag} {w w' : Wd} {H H' : Hp} {d : MO} {y : HO} (r : MRep K w d y) (l : Go w H w' H') : MRep K w' d y := MRep.mono l.le r
theorem Go.put {K : PySem.W.Frag} {w : Wd} {H : Hp} {M : Mem} {p : Addr} {o : HO} (s : SatM K w H M) (hp : H p = none) : Go w H (w.put p o) (upd H p o) := by
  refine ⟨Wd.le_put (s.fz hp), fun a u e n => ?_, fun a m => .inl m, fun a u e => ?_⟩
  · rw [upd_ne (ne_of_none e hp)]; exact e
  · by_cases ha : a = p
    · subst ha; exact .inr (.inl hp)
    · refine .inl ?_
      have e' : upd w.F p o a = some u := e
      rw [upd_ne ha] at e'
      exact e'
theorem Go.add {w : Wd} {H : Hp} {p : Addr} {o : HO} (hp : H p = none) : Go w H (w.add p) (upd H p o) := by
  refine ⟨Wd.le_add, fun a u e n => ?_, fun a m => ?_, fun a u e => .inl e⟩
  · rw [upd_ne (ne_of_none e hp)]; exact e
  · rcases List.mem_append.mp m with q | q
    · exact .inl q
    · have : a = p := by simpa using q
      subst this
      exact .inr hp
theorem Go.chg {w : Wd} {H : Hp} {n : Nat} {p : Addr} {o : HO} (e : w.ρ[n]? = some p) : Go w H w (upd H p o) :=
  ⟨.refl w, fun a u e' n' => by
    rw [upd_ne (by intro z; subst z; exact n' (List.mem_of_getElem? e))]
    exact e', fun a m => .inl m, fun a u e => .inl e⟩

/-! ### contexts: what all the bodies of one place have in common -/
structure Ctx where
  prog : Program
  w : World
  K : PySem.W.Frag
  mg : Str → Option Value
  base : Heap
  A : Around
  N : List Str
  P : Type
  env : P → Env
  fn : Str → Bool
  calm : Bool
  pnOk : List (Addr × Obj) → (Value → Shared → Prop) → Prop
inductive Ctx.Has (C : Ctx) : Cx → Prop
  | mk (p : C.P) (s0 : Shared) (H0 : Hp) (outer stack : List Env) (ex : List Addr) (pn : List (Addr × Obj)) (xe : Value → Shared → Prop) (hpn : C.pnOk pn xe) : Has C ⟨C.prog, C.w, C.K, C.mg, C.base, C.A, C.N, s0, H0, C.env p, outer, stack, ex, C.fn, C.calm, pn, xe⟩
/-- the block of a comprehension -/
def Ctx.blk (C : Ctx) (scope : Scope) : Ctx := { C with P := List (Str × Addr) × Addr × C.P, env := fun q => compEnvC scope q.1 q.2.1 (C.env q.2.2), fn := fun x => scope.names.lookup x == some .cell, pnOk := fun _ _ => True }
theorem Ctx.Has.blk {C : Ctx} {X : Cx} (h : C.Has X) (scope : Scope) (s : Shared) (H : Hp) (c : Addr) (cl : List (Str × Addr)) (fp : List Addr) : (C.blk scope).Has (X.blk s H scope (compEnvC scope cl c X.env) fp) := by
  cases h with
  | mk p s0 H0 outer stack ex pn xe hpn => exact Ctx.Has.mk (C := C.blk scope) (cl, c, p) s H stack stack fp [] _ trivial

def wE (C : Ctx) (e : Expr) : TE := fun σ H Q => ∃ t, (∀ X, C.Has X → PE X e t) ∧ t σ H Q
def wT (C : Ctx) (e : Expr) : TT := fun σ H Q => ∃ t, (∀ X, C.Has X → PT X e t) ∧ t σ H Q
def wW (C : Ctx) (e : Expr) : TT := fun σ H Q => ∃ t, (∀ X, C.Has X → PW X e t) ∧ t σ H Q
def wA (C : Ctx) (es : List Expr) : TA := fun σ H Q => ∃ t, (∀ X, C.Has X → PA X es t) ∧ t σ H Q
def wI (C : Ctx) (tg e : Expr) : TI := fun σ H R => ∃ t, (∀ X, C.Has X → PI X tg e t) ∧ t σ H R
def wG (C : Ctx) (tg : Expr) : TG := fun v σ H Q => ∃ t, (∀ X, C.Has X → PG X tg t) ∧ t v σ H Q
def wGs (C : Ctx) (ts : List Expr) : TGs := fun vs σ H Q => ∃ t, (∀ X, C.Has X → PGs X ts t) ∧ t vs σ H Q
def wTs (C : Ctx) (ifs : List Expr) : TT := fun σ H Q => ∃ t, (∀ X, C.Has X → PTs X ifs t) ∧ t σ H Q
section
variable {C : Ctx} {X : Cx}
theorem pe_w (h : C.Has X) {e : Expr} : PE X e (wE C e) := ⟨fun pins s σ H Q I ⟨t, ht, q⟩ => (ht X h).run pins s σ H Q I q⟩
theorem pt_w (h : C.Has X) {e : Expr} : PT X e (wT C e) := ⟨fun pins s σ H Q I ⟨t, ht, q⟩ => (ht X h).run pins s σ H Q I q⟩
theorem pw_w (h : C.Has X) {e : Expr} : PW X e (wW C e) := ⟨fun wh pins s σ H Q I ⟨t, ht, q⟩ => (ht X h).run wh pins s σ H Q I q⟩
theorem pa_w (h : C.Has X) {es : List Expr} : PA X es (wA C es) := ⟨fun pos pins s σ H Q I ⟨t, ht, q⟩ => (ht X h).run pos pins s σ H Q I q⟩
theorem pi_w (h : C.Has X) {tg e : Expr} : PI X tg e (wI C tg e) := ⟨fun pins s σ H R I ⟨t, ht, q⟩ => (ht X h).run pins s σ H R I q⟩
theorem pg_w (h : C.Has X) {tg : Expr} : PG X tg (wG C tg) := ⟨fun pins s σ H v u Q I r ⟨t, ht, q⟩ => (ht X h).run pins s σ H v u Q I r q⟩
theorem pgs_w (h : C.Has X) {ts : List Expr} : PGs X ts (wGs C ts) := ⟨fun pins s σ H v u Q I r ⟨t, ht, q⟩ => (ht X h).run pins s σ H v u Q I r q⟩
theorem pts_w (h : C.Has X) {e : List Expr} : PTs X e (wTs C e) := ⟨fun pins s σ H Q I ⟨t, ht, q⟩ => (ht X h).run pins s σ H Q I q⟩
end

/-! ### expressions, tests, arguments: what they are worth -/
def ED (C : Ctx) (S : DS) (M : Mem) (e : Expr) (d : D) (M' : Mem) : Prop := ∀ w σ H, SatM C.K w H M → RepS C.K w S σ → ∀ Q : VK,
  (∀ w' H' y, Go w H w' H' → SatM C.K w' H' M' → Rep C.K w' d y → Q y H') → wE C e σ H Q
def TD (C : Ctx) (S : DS) (M : Mem) (e : Expr) (b : Bool) (M' : Mem) : Prop := ∀ w σ H, SatM C.K w H M → RepS C.K w S σ → ∀ Q : Bool → Hp → Prop,
  (∀ w' H', Go w H w' H' → SatM C.K w' H' M' → Q b H') → wT C e σ H Q
def WD (C : Ctx) (S : DS) (M : Mem) (e : Expr) (b : Bool) (M' : Mem) : Prop := ∀ w σ H, SatM C.K w H M → RepS C.K w S σ → ∀ Q : Bool → Hp → Prop,
  (∀ w' H', Go w H w' H' → SatM C.K w' H' M' → Q b H') → wW C e σ H Q
def AD (C : Ctx) (S : DS) (M : Mem) (es : List Expr) (ds : List D) (M' : Mem) : Prop := ∀ w σ H, SatM C.K w H M → RepS C.K w S σ → ∀ Q : List V → Hp → Prop,
  (∀ w' H' ys, Go w H w' H' → SatM C.K w' H' M' → Reps C.K w' ds ys → Q ys H') → wA C es σ H Q
def TsD (C : Ctx) (S : DS) (M : Mem) (es : List Expr) (b : Bool) (M' : Mem) : Prop := ∀ w σ H, SatM C.K w H M → RepS C.K w S σ → ∀ Q : Bool → Hp → Prop,
  (∀ w' H', Go w H w' H' → SatM C.K w' H' M' → Q b H') → wTs C es σ H Q
/-- a target: the slots vs are stored -/
def GD (C : Ctx) (S : DS) (tg : Expr) (d : D) (S' : DS) (vs : List Nat) : Prop := ∀ w σ H M y, SatM C.K w H M → RepS C.K w S σ → Rep C.K w d y → ∀ Q : L2.St → Hp → Prop,
  (∀ σ', RepS C.K w S' σ' → σ'.length = σ.length → (∀ i, i ∉ vs → σ'[i]? = σ[i]?) → Q σ' H) → wG C tg y σ H Q
def GsD (C : Ctx) (S : DS) (ts : List Expr) (ds : List D) (S' : DS) (vs : List Nat) : Prop := ∀ w σ H M ys, SatM C.K w H M → RepS C.K w S σ → Reps C.K w ds ys → ∀ Q : L2.St → Hp → Prop,
  (∀ σ', RepS C.K w S' σ' → σ'.length = σ.length → (∀ i, i ∉ vs → σ'[i]? = σ[i]?) → Q σ' H) → wGs C ts ys σ H Q
end DL
set_option maxHeartbeats 2000000
namespace DL
open PySem PySem.Spec PyProof.Rows L2
section
variable {C : Ctx} {S S' : DS} {M M1 M2 M3 M' : Mem} {a b c e : Expr} {es rest : List Expr} {da db dc d : D} {ds : List D} {pos p2 : Pos} {x : Str} {k k1 k2 : Bool}
/-! ### by a rule of the layer -/
theorem ED.of {t : TE} (h : ∀ X, C.Has X → PE X e t) (hq : ∀ w σ H, SatM C.K w H M → RepS C.K w S σ → ∀ Q : VK, (∀ w' H' y, Go w H w' H' → SatM C.K w' H' M' → Rep C.K w' d y → Q y H') → t σ H Q) : ED C S M e d M' :=
  fun w σ H hs hr Q q => ⟨t, h, hq w σ H hs hr Q q⟩
theorem TD.of {t : TT} (h : ∀ X, C.Has X → PT X e t) (hq : ∀ w σ H, SatM C.K w H M → RepS C.K w S σ → ∀ Q : Bool → Hp → Prop, (∀ w' H', Go w H w' H' → SatM C.K w' H' M' → Q k H') → t σ H Q) : TD C S M e k M' :=
  fun w σ H hs hr Q q => ⟨t, h, hq w σ H hs hr Q q⟩
theorem WD.of {t : TT} (h : ∀ X, C.Has X → PW X e t) (hq : ∀ w σ H, SatM C.K w H M → RepS C.K w S σ → ∀ Q : Bool → Hp → Prop, (∀ w' H', Go w H w' H' → SatM C.K w' H' M' → Q k H') → t σ H Q) : WD C S M e k M' :=
  fun w σ H hs hr Q q => ⟨t, h, hq w σ H hs hr Q q⟩
theorem AD.of {t : TA} (h : ∀ X, C.Has X → PA X es t) (hq : ∀ w σ H, SatM C.K w H M → RepS C.K w S σ → ∀ Q : List V → Hp → Prop, (∀ w' H' ys, Go w H w' H' → SatM C.K w' H' M' → Reps C.K w' ds ys → Q ys H') → t σ H Q) : AD C S M es ds M' :=
  fun w σ H hs hr Q q => ⟨t, h, hq w σ H hs hr Q q⟩
theorem ED.is (h : ED C S M e d M') {d' : D} (q : d = d') : ED C S M e d' M' := q ▸ h
theorem TD.is (h : TD C S M e k M') {k' : Bool} (q : k = k') : TD C S M e k' M' := q ▸ h
theorem AD.is (h : AD C S M es ds M') {ds' : List D} (q : ds = ds') : AD C S M es ds' M' := q ▸ h

/-! ### names and constants -/
theorem ed_var (i : Nat) (hN : C.N[i]? = some x := by rfl) (hS : S[i]? = some (some d) := by rfl) (hv : ∀ p, Vis (C.env p).scope x := by intro _; first | exact Or.inl rfl | exact Or.inr (Or.inl rfl) | exact Or.inr (Or.inr rfl))
    (hd : (x == ("__debug__" : Str)) = false := by decide) (hcd : (x == ("__classdict__" : Str)) = false := by decide) : ED C S M (.Name x pos) d M :=
  ED.of (t := tVar i) (fun X hX => by cases hX with | mk p => exact pe_var hN (hv p) hd hcd) fun w σ H hs hr Q q => by
    obtain ⟨y, e, r⟩ := hr.get i d hS
    exact ⟨y, e, q w H y (.refl w) hs r⟩
theorem ed_c {v : V} (h : ∀ X, C.Has X → PE X e (tC v)) : ED C S M e (.v v) M := ED.of h fun w σ H hs hr Q q => q w H v (.refl w) hs rep_v'
theorem ed_int {i : Int} {j : Nat} : ED C S M (.Constant (.int i) j pos) (.v (.int i)) M := ed_c fun _ _ => pe_int
theorem ed_bl {i : Bool} {j : Nat} : ED C S M (.Constant (.bool i) j pos) (.v (.bl i)) M := ed_c fun _ _ => pe_bl
theorem ed_non {j : Nat} : ED C S M (.Constant .none j pos) (.v .non) M := ed_c fun _ _ => pe_non
theorem ed_str {i : Str} {j : Nat} : ED C S M (.Constant (.str i) j pos) (.v (.str i)) M := ed_c fun _ _ => pe_str
theorem ed_glob {v : V} {u : Value} (hm : C.mg x = some u) (r : RelV v u) (hg : ∀ p, (C.env p).kindOf x = some .globalImplicit := by intro _; rfl) (hd : (x == ("__debug__" : Str)) = false := by decide) : ED C S M (.Name x pos) (.v v) M :=
  ed_c fun X hX => by cases hX with | mk p => exact pe_glob (hg p) hm r hd
theorem ed_globR {u : Addr} (hm : C.mg x = some (.ref u)) (hg : ∀ p, (C.env p).kindOf x = some .globalImplicit := by intro _; rfl) (hd : (x == ("__debug__" : Str)) = false := by decide) : ED C S M (.Name x pos) (.v (.ref u)) M := ed_glob (v := .ref u) hm rfl hg hd
theorem ed_bltn {v : V} {u : Value} (hm : C.mg x = none) (hv : bootBuiltins x = some u) (r : RelV v u) (hg : ∀ p, (C.env p).kindOf x = some .globalImplicit := by intro _; rfl) (hn : x ≠ "__name__" := by decide)
    (hd : (x == ("__debug__" : Str)) = false := by decide) : ED C S M (.Name x pos) (.v v) M :=
  ed_c fun X hX => by cases hX with | mk p => exact pe_bltn (hg p) hm hv r hn hd

theorem ed_bltnT {n : String} (hm : C.mg x = none) (hv : bootBuiltins x = some (.type n)) (hg : ∀ p, (C.env p).kindOf x = some .globalImplicit := by intro _; rfl) (hn : x ≠ "__name__" := by decide)
    (hd : (x == ("__debug__" : Str)) = false := by decide) : ED C S M (.Name x pos) (.v (.ty n)) M := ed_bltn (v := .ty n) hm hv rfl hg hn hd
/-! ### by values -/
/-- what a rule of two values gives -/
def RV (C : Ctx) (r : R2) (M : Mem) (da db d : D) (M' : Mem) : Prop := ∀ w H x y, SatM C.K w H M → Rep C.K w da x → Rep C.K w db y → ∀ Q : VK, (∀ w' H' z, Go w H w' H' → SatM C.K w' H' M' → Rep C.K w' d z → Q z H') → r x y H Q
def RU (C : Ctx) (r : V → Hp → VK → Prop) (M : Mem) (da d : D) (M' : Mem) : Prop := ∀ w H x, SatM C.K w H M → Rep C.K w da x → ∀ Q : VK, (∀ w' H' z, Go w H w' H' → SatM C.K w' H' M' → Rep C.K w' d z → Q z H') → r x H Q
def RC (C : Ctx) (r : List V → Hp → VK → Prop) (M : Mem) (ds : List D) (d : D) (M' : Mem) : Prop := ∀ w H xs, SatM C.K w H M → Reps C.K w ds xs → ∀ Q : VK, (∀ w' H' z, Go w H w' H' → SatM C.K w' H' M' → Rep C.K w' d z → Q z H') → r xs H Q
theorem op_read {r : R2} {ta tb : TE} (ha : ta = wE C a) (hb : tb = wE C b) (h1 : ED C S M a da M1) (h2 : ED C S M1 b db M2) (hr : RV C r M2 da db d M3) : ∀ w σ H, SatM C.K w H M → RepS C.K w S σ → ∀ Q : VK, (∀ w' H' y, Go w H w' H' → SatM C.K w' H' M3 → Rep C.K w' d y → Q y H') → tOp r ta tb σ H Q :=
  fun w σ H hs hp Q q => by
    subst ha hb
    exact h1 w σ H hs hp _ fun w1 H1 y1 l1 s1 r1 => h2 w1 σ H1 s1 (hp.go l1) _ fun w2 H2 y2 l2 s2 r2 => hr w2 H2 y1 y2 s2 (r1.go l2) r2 Q fun w3 H3 z l3 s3 r3 => q w3 H3 z ((l1.trans l2).trans l3) s3 r3
theorem ed_op {op : Operator} {r : R2} (ho : ∀ X, C.Has X → OpR X (binaryOp op) r) (h1 : ED C S M a da M1) (h2 : ED C S M1 b db M2) (hr : RV C r M2 da db d M3) : ED C S M (.BinOp a op b pos) d M3 :=
  ED.of (fun X hX => pe_op (ho X hX) (pe_w hX) (pe_w hX)) (op_read rfl rfl h1 h2 hr)
theorem ed_cmpR {op : CmpOp} {r : R2} (ho : ∀ X, C.Has X → OpR X (compareOp op) r) (h1 : ED C S M a da M1) (h2 : ED C S M1 b db M2) (hr : RV C r M2 da db d M3) (hm : behindInMarks op b = false) : ED C S M (.Compare a [op] [b] pos) d M3 :=
  ED.of (fun X hX => pe_cmpR (ho X hX) (pe_w hX) (pe_w hX) hm) (op_read rfl rfl h1 h2 hr)
theorem td_cmpR {op : CmpOp} {r : R2} (ho : ∀ X, C.Has X → OpR X (compareOp op) r) (h1 : ED C S M a da M1) (h2 : ED C S M1 b db M2) (hr : RV C r M2 da db (.v (.bl k)) M3) (hm : behindInMarks op b = false) : TD C S M (.Compare a [op] [b] pos) k M3 :=
  TD.of (fun X hX => pt_cmpR (ho X hX) (pe_w hX) (pe_w hX) hm) fun w σ H hs hp Q q => op_read rfl rfl h1 h2 hr w σ H hs hp _ fun w' H' y l s r => ⟨k, rep_v.mp r, q w' H' l s⟩
theorem rv_I0 {g : Int → Int → V} {i j : Int} : RV C (rI0 g) M (.v (.int i)) (.v (.int j)) (.v (g i j)) M := fun w H x y hs hx hy Q q => by
  rw [rep_v] at hx hy
  exact ⟨i, j, hx, hy, q w H _ (.refl w) hs rep_v'⟩
theorem rv_I {c : Int → Int → Prop} {g : Int → Int → V} {i j : Int} (hc : c i j) : RV C (rI c g) M (.v (.int i)) (.v (.int j)) (.v (g i j)) M := fun w H x y hs hx hy Q q => by
  rw [rep_v] at hx hy
  exact ⟨i, j, hx, hy, hc, q w H _ (.refl w) hs rep_v'⟩
theorem ed_add {i j : Int} (h1 : ED C S M a (.v (.int i)) M1) (h2 : ED C S M1 b (.v (.int j)) M2) : ED C S M (.BinOp a .Add b pos) (.v (.int (i + j))) M2 := ed_op (fun _ _ => op_add) h1 h2 (rv_I0 (g := fun i j => .int (i + j)))
theorem ed_sub {i j : Int} (h1 : ED C S M a (.v (.int i)) M1) (h2 : ED C S M1 b (.v (.int j)) M2) : ED C S M (.BinOp a .Sub b pos) (.v (.int (i - j))) M2 := ed_op (fun _ _ => op_sub) h1 h2 (rv_I0 (g := fun i j => .int (i - j)))
theorem ed_mul {i j : Int} (h1 : ED C S M a (.v (.int i)) M1) (h2 : ED C S M1 b (.v (.int j)) M2) (hc : CMul i j) : ED C S M (.BinOp a .Mult b pos) (.v (.int (i * j))) M2 := ed_op (fun _ _ => op_mul) h1 h2 (rv_I (g := fun i j => .int (i * j)) hc)
theorem ed_mod {i j : Int} (h1 : ED C S M a (.v (.int i)) M1) (h2 : ED C S M1 b (.v (.int j)) M2) (hc : 0 < j) : ED C S M (.BinOp a .Mod b pos) (.v (.int (i % j))) M2 := ed_op (fun _ _ => op_mod) h1 h2 (rv_I (c := fun _ j => 0 < j) (g := fun i j => .int (i % j)) hc)
theorem ed_fdiv {i j : Int} (h1 : ED C S M a (.v (.int i)) M1) (h2 : ED C S M1 b (.v (.int j)) M2) (hc : CDiv i j) : ED C S M (.BinOp a .FloorDiv b pos) (.v (.int (i / j))) M2 := ed_op (fun _ _ => op_fdiv) h1 h2 (rv_I (g := fun i j => .int (i / j)) hc)
theorem ed_pow {i j : Int} (h1 : ED C S M a (.v (.int i)) M1) (h2 : ED C S M1 b (.v (.int j)) M2) (hc : CPow i j) : ED C S M (.BinOp a .Pow b pos) (.v (.int (i ^ j.toNat))) M2 := ed_op (fun _ _ => op_pow) h1 h2 (rv_I (g := fun i j => .int (i ^ j.toNat)) hc)
theorem td_lt {i j : Int} (h1 : ED C S M a (.v (.int i)) M1) (h2 : ED C S M1 b (.v (.int j)) M2) : TD C S M (.Compare a [.Lt] [b] pos) (decide (i < j)) M2 := td_cmpR (fun _ _ => op_lt) h1 h2 (rv_I0 (g := fun i j => .bl (decide (i < j)))) (nomark _)
theorem td_le {i j : Int} (h1 : ED C S M a (.v (.int i)) M1) (h2 : ED C S M1 b (.v (.int j)) M2) : TD C S M (.Compare a [.LtE] [b] pos) (decide (i ≤ j)) M2 := td_cmpR (fun _ _ => op_le) h1 h2 (rv_I0 (g := fun i j => .bl (decide (i ≤ j)))) (nomark _)
theorem td_gt {i j : Int} (h1 : ED C S M a (.v (.int i)) M1) (h2 : ED C S M1 b (.v (.int j)) M2) : TD C S M (.Compare a [.Gt] [b] pos) (decide (j < i)) M2 := td_cmpR (fun _ _ => op_gt) h1 h2 (rv_I0 (g := fun i j => .bl (decide (j < i)))) (nomark _)
theorem td_ge {i j : Int} (h1 : ED C S M a (.v (.int i)) M1) (h2 : ED C S M1 b (.v (.int j)) M2) : TD C S M (.Compare a [.GtE] [b] pos) (decide (j ≤ i)) M2 := td_cmpR (fun _ _ => op_ge) h1 h2 (rv_I0 (g := fun i j => .bl (decide (j ≤ i)))) (nomark _)
theorem ed_lt {i j : Int} (h1 : ED C S M a (.v (.int i)) M1) (h2 : ED C S M1 b (.v (.int j)) M2) : ED C S M (.Compare a [.Lt] [b] pos) (.v (.bl (decide (i < j)))) M2 := ed_cmpR (fun _ _ => op_lt) h1 h2 (rv_I0 (g := fun i j => .bl (decide (i < j)))) (nomark _)
theorem ed_le {i j : Int} (h1 : ED C S M a (.v (.int i)) M1) (h2 : ED C S M1 b (.v (.int j)) M2) : ED C S M (.Compare a [.LtE] [b] pos) (.v (.bl (decide (i ≤ j)))) M2 := ed_cmpR (fun _ _ => op_le) h1 h2 (rv_I0 (g := fun i j => .bl (decide (i ≤ j)))) (nomark _)
theorem ed_gt {i j : Int} (h1 : ED C S M a (.v (.int i)) M1) (h2 : ED C S M1 b (.v (.int j)) M2) : ED C S M (.Compare a [.Gt] [b] pos) (.v (.bl (decide (j < i)))) M2 := ed_cmpR (fun _ _ => op_gt) h1 h2 (rv_I0 (g := fun i j => .bl (decide (j < i)))) (nomark _)
theorem ed_ge {i j : Int} (h1 : ED C S M a (.v (.int i)) M1) (h2 : ED C S M1 b (.v (.int j)) M2) : ED C S M (.Compare a [.GtE] [b] pos) (.v (.bl (decide (j ≤ i)))) M2 := ed_cmpR (fun _ _ => op_ge) h1 h2 (rv_I0 (g := fun i j => .bl (decide (j ≤ i)))) (nomark _)
theorem rv_eq {x y : V} (h : scal x y = true) : RV C rEq M (.v x) (.v y) (.v (.bl (decide (x = y)))) M := fun w H x' y' hs hx hy Q q => by
  rw [rep_v] at hx hy
  subst hx hy
  exact ⟨h, q w H _ (.refl w) hs rep_v'⟩
theorem rv_ne {x y : V} (h : scal x y = true) : RV C rNe M (.v x) (.v y) (.v (.bl (!decide (x = y)))) M := fun w H x' y' hs hx hy Q q => by
  rw [rep_v] at hx hy
  subst hx hy
  exact ⟨h, q w H _ (.refl w) hs rep_v'⟩
theorem td_eq {x y : V} (h1 : ED C S M a (.v x) M1) (h2 : ED C S M1 b (.v y) M2) (h : scal x y = true := by rfl) : TD C S M (.Compare a [.Eq] [b] pos) (decide (x = y)) M2 := td_cmpR (fun _ _ => op_eq) h1 h2 (rv_eq h) (nomark _)
theorem td_ne {x y : V} (h1 : ED C S M a (.v x) M1) (h2 : ED C S M1 b (.v y) M2) (h : scal x y = true := by rfl) : TD C S M (.Compare a [.NotEq] [b] pos) (!decide (x = y)) M2 := td_cmpR (fun _ _ => op_ne) h1 h2 (rv_ne h) (nomark _)
theorem ed_eq {x y : V} (h1 : ED C S M a (.v x) M1) (h2 : ED C S M1 b (.v y) M2) (h : scal x y = true := by rfl) : ED C S M (.Compare a [.Eq] [b] pos) (.v (.bl (decide (x = y)))) M2 := ed_cmpR (fun _ _ => op_eq) h1 h2 (rv_eq h) (nomark _)
theorem ed_ne {x y : V} (h1 : ED C S M a (.v x) M1) (h2 : ED C S M1 b (.v y) M2) (h : scal x y = true := by rfl) : ED C S M (.Compare a [.NotEq] [b] pos) (.v (.bl (!decide (x = y)))) M2 := ed_cmpR (fun _ _ => op_ne) h1 h2 (rv_ne h) (nomark _)

/-! ### tests -/
theorem td_val (h : ED C S M e (.v (.bl k)) M') (he : ∀ p, ∀ whole, isTrue e (C.env p) whole = (do let v ← whole; standAt e.pos; holding [v] (truthy v)) := by intro _ _; rfl) : TD C S M e k M' :=
  TD.of (fun X hX => by cases hX with | mk p s0 H0 outer stack ex pn xe hpn => exact pt_val (pe_w (.mk p s0 H0 outer stack ex pn xe hpn)) (he p)) fun w σ H hs hp Q q => h w σ H hs hp (fun x H1 => ∃ k2, x = .bl k2 ∧ Q k2 H1) fun w' H' y l s r => ⟨k, rep_v.mp r, q w' H' l s⟩
theorem td_w (h : WD C S M e k M') : TD C S M e k M' := TD.of (fun X hX => (pw_w hX).pt) h
theorem td_not (h : TD C S M a k M') : TD C S M (.UnaryOp .Not a pos) (!k) M' := TD.of (fun X hX => pt_not (pt_w hX)) fun w σ H hs hp Q q => h w σ H hs hp _ fun w' H' l s => q w' H' l s
theorem wd_and1 (h : TD C S M a k M') : WD C S M (.BoolOp .And [a] pos) k M' := WD.of (fun X hX => pw_and1 (pt_w hX)) h
theorem wd_or1 (h : TD C S M a k M') : WD C S M (.BoolOp .Or [a] pos) k M' := WD.of (fun X hX => pw_or1 (pt_w hX)) h
theorem wd_and (h : TD C S M a k1 M) (h2 : k1 = true → WD C S M (.BoolOp .And (b :: rest) pos) k2 M) : WD C S M (.BoolOp .And (a :: b :: rest) pos) (k1 && k2) M :=
  WD.of (fun X hX => pw_and (pt_w hX) (pw_w hX)) fun w σ H hs hp Q q => h w σ H hs hp _ fun w' H' l s => by
    cases k1 with
    | true => exact h2 rfl w' σ H' s (hp.go l) Q fun w2 H2 l2 s2 => q w2 H2 (l.trans l2) s2
    | false => exact q w' H' l s
theorem wd_or (h : TD C S M a k1 M) (h2 : k1 = false → WD C S M (.BoolOp .Or (b :: rest) pos) k2 M) : WD C S M (.BoolOp .Or (a :: b :: rest) pos) (k1 || k2) M :=
  WD.of (fun X hX => pw_or (pt_w hX) (pw_w hX)) fun w σ H hs hp Q q => h w σ H hs hp _ fun w' H' l s => by
    cases k1 with
    | true => exact q w' H' l s
    | false => exact h2 rfl w' σ H' s (hp.go l) Q fun w2 H2 l2 s2 => q w2 H2 (l.trans l2) s2
theorem ed_one {op : BoolOp} (h : ED C S M a d M') : ED C S M (.BoolOp op [a] pos) d M' := ED.of (fun X hX => pe_one (pe_w hX)) h
theorem ed_and (h : ED C S M a (.v (.bl k1)) M) (h2 : k1 = true → ED C S M (.BoolOp .And (b :: rest) pos) (.v (.bl k2)) M) : ED C S M (.BoolOp .And (a :: b :: rest) pos) (.v (.bl (k1 && k2))) M :=
  ED.of (fun X hX => pe_and (pe_w hX) (pe_w hX)) fun w σ H hs hp Q q => h w σ H hs hp _ fun w' H' y l s r => ⟨k1, rep_v.mp r, by
    cases k1 with
    | true => exact h2 rfl w' σ H' s (hp.go l) Q fun w2 H2 y2 l2 s2 r2 => q w2 H2 y2 (l.trans l2) s2 r2
    | false => exact q w' H' _ l s rep_v'⟩
theorem ed_or (h : ED C S M a (.v (.bl k1)) M) (h2 : k1 = false → ED C S M (.BoolOp .Or (b :: rest) pos) (.v (.bl k2)) M) : ED C S M (.BoolOp .Or (a :: b :: rest) pos) (.v (.bl (k1 || k2))) M :=
  ED.of (fun X hX => pe_or (pe_w hX) (pe_w hX)) fun w σ H hs hp Q q => h w σ H hs hp _ fun w' H' y l s r => ⟨k1, rep_v.mp r, by
    cases k1 with
    | true => exact q w' H' _ l s rep_v'
    | false => exact h2 rfl w' σ H' s (hp.go l) Q fun w2 H2 y2 l2 s2 r2 => q w2 H2 y2 (l.trans l2) s2 r2⟩
theorem ed_not (h : ED C S M a (.v (.bl k)) M') : ED C S M (.UnaryOp .Not a pos) (.v (.bl (!k))) M' := ED.of (fun X hX => pe_not (pe_w hX)) fun w σ H hs hp Q q => h w σ H hs hp _ fun w' H' y l s r => ⟨k, rep_v.mp r, q w' H' _ l s rep_v'⟩
theorem ed_neg {i : Int} (h : ED C S M a (.v (.int i)) M') : ED C S M (.UnaryOp .USub a pos) (.v (.int (-i))) M' := ED.of (fun X hX => pe_un un_neg (pe_w hX)) fun w σ H hs hp Q q => h w σ H hs hp _ fun w' H' y l s r => ⟨i, rep_v.mp r, q w' H' _ l s rep_v'⟩
theorem ed_if (h : TD C S M c k M1) (h1 : k = true → ED C S M1 a d M') (h2 : k = false → ED C S M1 b d M') : ED C S M (.IfExp c a b pos) d M' :=
  ED.of (fun X hX => pe_ifExp (pt_w hX) (pe_w hX) (pe_w hX)) fun w σ H hs hp Q q => h w σ H hs hp _ fun w' H' l s => by
    cases k with
    | true => exact h1 rfl w' σ H' s (hp.go l) Q fun w2 H2 y2 l2 s2 r2 => q w2 H2 y2 (l.trans l2) s2 r2
    | false => exact h2 rfl w' σ H' s (hp.go l) Q fun w2 H2 y2 l2 s2 r2 => q w2 H2 y2 (l.trans l2) s2 r2
/-- i <= x <= j -/
theorem ed_chain {op op' : CmpOp} {r r' : R2} (ho : ∀ X, C.Has X → OpR X (compareOp op) r) (ho' : ∀ X, C.Has X → OpR X (compareOp op') r') (h1 : ED C S M a da M) (h2 : ED C S M b db M) (h3 : k1 = true → ED C S M c dc M) (hr : RV C r M da db (.v (.bl k1)) M) (hr' : RV C r' M db dc (.v (.bl k2)) M)
    (hm : lastMarks [op, op'] [b, c] = false := by with_unfolding_all rfl) : ED C S M (.Compare a [op, op'] [b, c] pos) (.v (.bl (k1 && k2))) M :=
  ED.of (fun X hX => pe_chain (ho X hX) (ho' X hX) (pe_w hX) (pe_w hX) (pe_w hX) hm) fun w σ H hs hp Q q => h1 w σ H hs hp _ fun w1 H1 y1 l1 s1 r1 => h2 w1 σ H1 s1 (hp.go l1) _ fun w2 H2 y2 l2 s2 r2 =>
    hr w2 H2 y1 y2 s2 (r1.go l2) r2 _ fun w3 H3 z l3 s3 r3 => ⟨k1, rep_v.mp r3, by
      cases k1 with
      | false => exact q w3 H3 _ ((l1.trans l2).trans l3) s3 rep_v'
      | true =>
        exact h3 rfl w3 σ H3 s3 (hp.go ((l1.trans l2).trans l3)) _ fun w4 H4 y4 l4 s4 r4 => hr' w4 H4 y2 y4 s4 (r2.go (l3.trans l4)) r4 Q fun w5 H5 z5 l5 s5 r5 => q w5 H5 z5 ((((l1.trans l2).trans l3).trans l4).trans l5) s5 r5⟩
theorem td_chain {op op' : CmpOp} {r r' : R2} (ho : ∀ X, C.Has X → OpR X (compareOp op) r) (ho' : ∀ X, C.Has X → OpR X (compareOp op') r') (h1 : ED C S M a da M) (h2 : ED C S M b db M) (h3 : k1 = true → ED C S M c dc M) (hr : RV C r M da db (.v (.bl k1)) M) (hr' : RV C r' M db dc (.v (.bl k2)) M)
    (hm : lastMarks [op, op'] [b, c] = false := by with_unfolding_all rfl) : TD C S M (.Compare a [op, op'] [b, c] pos) (k1 && k2) M :=
  TD.of (fun X hX => pt_chain (ho X hX) (ho' X hX) (pe_w hX) (pe_w hX) (pe_w hX) hm) fun w σ H hs hp Q q => h1 w σ H hs hp _ fun w1 H1 y1 l1 s1 r1 => h2 w1 σ H1 s1 (hp.go l1) _ fun w2 H2 y2 l2 s2 r2 =>
    hr w2 H2 y1 y2 s2 (r1.go l2) r2 _ fun w3 H3 z l3 s3 r3 => ⟨k1, rep_v.mp r3, by
      cases k1 with
      | false => exact ⟨_, rfl, q w3 H3 ((l1.trans l2).trans l3) s3⟩
      | true =>
        exact h3 rfl w3 σ H3 s3 (hp.go ((l1.trans l2).trans l3)) _ fun w4 H4 y4 l4 s4 r4 => hr' w4 H4 y2 y4 s4 (r2.go (l3.trans l4)) r4 _ fun w5 H5 z5 l5 s5 r5 => ⟨k2, rep_v.mp r5, q w5 H5 ((((l1.trans l2).trans l3).trans l4).trans l5) s5⟩⟩

/-! ### argument lists, displays -/
theorem ad_nil : AD C S M [] [] M := AD.of (fun X hX => pa_nil) fun w σ H hs hp Q q => q w H [] (.refl w) hs reps_nil'
theorem ad_cons (h1 : ED C S M e d M1) (h2 : AD C S M1 es ds M2) (hs : ∀ p, starEach (e :: es) (C.env p) = (false, eval e (C.env p)) :: starEach es (C.env p) := by intro _; rfl) : AD C S M (e :: es) (d :: ds) M2 :=
  AD.of (fun X hX => by cases hX with | mk p s0 H0 outer stack ex pn xe hpn => exact pa_cons (pe_w (.mk p s0 H0 outer stack ex pn xe hpn)) (pa_w (.mk p s0 H0 outer stack ex pn xe hpn)) (hs p)) fun w σ H hs hp Q q =>
    h1 w σ H hs hp _ fun w1 H1 y1 l1 s1 r1 => h2 w1 σ H1 s1 (hp.go l1) _ fun w2 H2 ys l2 s2 r2 => q w2 H2 _ (l1.trans l2) s2 (reps_cons' (r1.go l2) r2)
theorem sz {n : Nat} (h : n ≤ 100000) : n ≤ sizeLine := Nat.le_trans h (by decide)
theorem SatM.put_tup {w : Wd} {H : Hp} {ys : List V} {p : Addr} (s : SatM C.K w H M) (r : Reps C.K w ds ys) (hp : H p = none) : Go w H (w.put p (.tup ys)) (upd H p (.tup ys)) ∧ SatM C.K (w.put p (.tup ys)) (upd H p (.tup ys)) M ∧ Rep C.K (w.put p (.tup ys)) (.tup ds) (.ref p) := by
  have l : Go w H (w.put p (.tup ys)) (upd H p (.tup ys)) := Go.put s hp
  exact ⟨l, s.new hp, rep_tup.mpr ⟨p, ys, rfl, upd_same, r.go l⟩⟩
theorem SatM.put_lst {w : Wd} {H : Hp} {ys : List V} {p : Addr} (s : SatM C.K w H M) (r : Reps C.K w ds ys) (hp : H p = none) : Go w H (w.put p (.lst ys)) (upd H p (.lst ys)) ∧ SatM C.K (w.put p (.lst ys)) (upd H p (.lst ys)) M ∧ Rep C.K (w.put p (.lst ys)) (.lst ds) (.ref p) := by
  have l : Go w H (w.put p (.lst ys)) (upd H p (.lst ys)) := Go.put s hp
  exact ⟨l, s.new hp, rep_lst.mpr ⟨p, ys, rfl, SqL.of upd_same, r.go l⟩⟩
theorem SatM.put_res {w : Wd} {H : Hp} {p : Addr} {mo : MO} {o : HO} (s : SatM C.K w H M) (r : MRep C.K w mo o) (hp : H p = none) : Go w H (w.add p) (upd H p o) ∧ SatM C.K (w.add p) (upd H p o) (M ++ [mo]) ∧ Rep C.K (w.add p) (.res M.length) (.ref p) := by
  refine ⟨Go.add hp, s.add hp (r.mono Wd.le_add), rep_res.mpr ⟨p, ?_, rfl⟩⟩
  show (w.ρ ++ [p])[M.length]? = some p
  rw [← s.len]; simp
theorem ed_tup {kk : Nat} (h : AD C S M es ds M') (hl : ds.length ≤ 100000 := by simp) : ED C S M (.Tuple es kk pos) (.tup ds) M' :=
  ED.of (fun X hX => pe_tup (pa_w hX)) fun w σ H hs hp Q q => h w σ H hs hp _ fun w1 H1 ys l1 s1 r1 => ⟨by rw [r1.length]; exact sz hl, fun p hp => by
    obtain ⟨l, s, r⟩ := s1.put_tup r1 hp
    exact q _ _ _ (l1.trans l) s r⟩
theorem ed_lst (h : AD C S M es ds M') (hl : ds.length ≤ 100000 := by simp) : ED C S M (.List es pos) (.lst ds) M' :=
  ED.of (fun X hX => pe_lst (pa_w hX)) fun w σ H hs hp Q q => h w σ H hs hp _ fun w1 H1 ys l1 s1 r1 => ⟨by rw [r1.length]; exact sz hl, fun p hp => by
    obtain ⟨l, s, r⟩ := s1.put_lst r1 hp
    exact q _ _ _ (l1.trans l) s r⟩
theorem ed_lstR (h : AD C S M es ds M') (hl : ds.length ≤ 100000 := by simp) : ED C S M (.List es pos) (.res M'.length) (M' ++ [.lst ds]) :=
  ED.of (fun X hX => pe_lst (pa_w hX)) fun w σ H hs hp Q q => h w σ H hs hp _ fun w1 H1 ys l1 s1 r1 => ⟨by rw [r1.length]; exact sz hl, fun p hp => by
    obtain ⟨l, s, r⟩ := s1.put_res (mo := .lst ds) (o := .lst ys) ⟨ys, rfl, r1⟩ hp
    exact q _ _ _ (l1.trans l) s r⟩

/-! ### items -/
theorem reps_at {w : Wd} {K : PySem.W.Frag} {vs : List V} {i : Int} (r : Reps K w ds vs) (h : atI ds i = some d) : ∃ y, atI vs i = some y ∧ Rep K w d y := by
  unfold atI at h ⊢
  rw [r.length]
  cases q : ixN ds.length i with
  | none => rw [q] at h; cases h
  | some j =>
    rw [q] at h
    exact r.get h
theorem ed_ixT {i : Int} (h1 : ED C S M a (.tup ds) M1) (h2 : ED C S M1 b (.v (.int i)) M2) (ha : atI ds i = some d) (hs : PlainIx b := by intro _ _; rfl) : ED C S M (.Subscript a b pos) d M2 :=
  ED.of (t := tOp (rIxT C.K) (wE C a) (wE C b)) (fun X hX => by
    have z : PE X (.Subscript a b pos) (tOp (rIxT X.K) (wE C a) (wE C b)) := pe_ix ix_tup (pe_w hX) (pe_w hX) hs
    cases hX with | mk p => exact z) (op_read rfl rfl h1 h2 fun w H x y hs hx hy Q q => by
      obtain ⟨p, vs, rfl, st, r⟩ := hs.tupH hx
      rw [rep_v] at hy
      obtain ⟨z, hz, rz⟩ := reps_at r ha
      exact ⟨p, vs, i, z, rfl, hy, st, hz, q w H z (.refl w) hs rz⟩)
theorem ed_ixL {i : Int} (h1 : ED C S M a (.lst ds) M1) (h2 : ED C S M1 b (.v (.int i)) M2) (ha : atI ds i = some d) (hs : PlainIx b := by intro _ _; rfl) : ED C S M (.Subscript a b pos) d M2 :=
  ED.of (t := tOp (rIxL C.K) (wE C a) (wE C b)) (fun X hX => by
    have z : PE X (.Subscript a b pos) (tOp (rIxL X.K) (wE C a) (wE C b)) := pe_ix ix_list (pe_w hX) (pe_w hX) hs
    cases hX with | mk p => exact z) (op_read rfl rfl h1 h2 fun w H x y hs hx hy Q q => by
      obtain ⟨p, vs, rfl, st, r⟩ := hs.lstH hx
      rw [rep_v] at hy
      obtain ⟨z, hz, rz⟩ := reps_at r ha
      exact ⟨p, vs, i, z, rfl, hy, st, hz, q w H z (.refl w) hs rz⟩)
/-- an item of a list that may change -/
theorem ed_ixR {i : Int} {n : Nat} (h1 : ED C S M a (.res n) M1) (h2 : ED C S M1 b (.v (.int i)) M2) (hM : M2[n]? = some (.lst ds)) (ha : atI ds i = some d) (hs : PlainIx b := by intro _ _; rfl) : ED C S M (.Subscript a b pos) d M2 :=
  ED.of (t := tOp (rIxL C.K) (wE C a) (wE C b)) (fun X hX => by
    have z : PE X (.Subscript a b pos) (tOp (rIxL X.K) (wE C a) (wE C b)) := pe_ix ix_list (pe_w hX) (pe_w hX) hs
    cases hX with | mk p => exact z) (op_read rfl rfl h1 h2 fun w H x y hs hx hy Q q => by
      rw [rep_res] at hx
      obtain ⟨p, hp, rfl⟩ := hx
      obtain ⟨p', o, e1, e2, vs, rfl, r⟩ := hs.res hM
      rw [hp] at e1; cases e1
      rw [rep_v] at hy
      obtain ⟨z, hz, rz⟩ := reps_at r ha
      exact ⟨p, vs, i, z, rfl, hy, SqL.of e2, hz, q w H z (.refl w) hs rz⟩)

/-! ### calls of built-ins -/
theorem ed_callB {id : String} {r : List V → Hp → VK → Prop} (hc : ∀ X, C.Has X → CallR X (.builtin id) r) (ha : AD C S M (e :: es) ds M1) (hr : RC C r M1 ds d M2) (hm : C.mg x = none) (hv : bootBuiltins x = some (.builtin id)) (hg : ∀ p, (C.env p).kindOf x = some .globalImplicit := by intro _; rfl)
    (hn : x ≠ "__name__" := by decide) (hdb : (x == ("__debug__" : Str)) = false := by decide) (he : ∀ p, starEach (e :: es) (C.env p) = (false, eval e (C.env p)) :: starEach es (C.env p) := by intro _; rfl) (hpl : ∀ p, (backTo pos (starEach es (C.env p))).any (·.1) = false := by intro _; rfl) : ED C S M (.Call (.Name x p2) (e :: es) [] pos) d M2 :=
  ED.of (t := tCB r (wA C (e :: es))) (fun X hX => by
    have z := hc X hX
    cases hX with | mk p s0 H0 outer stack ex pn xe hpn => exact pe_callB z (hg p) hm hv (pa_w (.mk p s0 H0 outer stack ex pn xe hpn)) hn hdb (he p) (hpl p)) fun w σ H hs hp Q q => ha w σ H hs hp _ fun w1 H1 ys l1 s1 r1 => hr w1 H1 ys s1 r1 Q fun w2 H2 z l2 s2 r2 => q w2 H2 z (l1.trans l2) s2 r2
theorem ed_callTy {T : String} {r : List V → Hp → VK → Prop} (hc : ∀ X, C.Has X → CallR X (.type T) r) (ha : AD C S M (e :: es) ds M1) (hr : RC C r M1 ds d M2) (hm : C.mg x = none) (hv : bootBuiltins x = some (.type T)) (hg : ∀ p, (C.env p).kindOf x = some .globalImplicit := by intro _; rfl)
    (hn : x ≠ "__name__" := by decide) (hdb : (x == ("__debug__" : Str)) = false := by decide) (he : ∀ p, starEach (e :: es) (C.env p) = (false, eval e (C.env p)) :: starEach es (C.env p) := by intro _; rfl) (hpl : ∀ p, (backTo pos (starEach es (C.env p))).any (·.1) = false := by intro _; rfl) : ED C S M (.Call (.Name x p2) (e :: es) [] pos) d M2 :=
  ED.of (t := tCB r (wA C (e :: es))) (fun X hX => by
    have z := hc X hX
    cases hX with | mk p s0 H0 outer stack ex pn xe hpn => exact pe_callTy z (hg p) hm hv (pa_w (.mk p s0 H0 outer stack ex pn xe hpn)) hn hdb (he p) (hpl p)) fun w σ H hs hp Q q => ha w σ H hs hp _ fun w1 H1 ys l1 s1 r1 => hr w1 H1 ys s1 r1 Q fun w2 H2 z l2 s2 r2 => q w2 H2 z (l1.trans l2) s2 r2
end
end DL
set_option maxHeartbeats 2000000
namespace DL
open PySem PySem.Spec PyProof.Rows L2

/-! ### statements -/
/-- what a body's surroundings want of exceptions -/
structure Own (X : Cx) (W : WX) : Prop where
  tk : Takes X W
  po : PassesOwn (model X.prog X.w) X.A X.env X.xe
  hs : X.stack = X.env :: X.outer
  hf : X.env.frame = some X.env.locals
def wS (C : Ctx) (W : WX) (st : Stmt) : TS := fun D σ H => ∃ t, (∀ X, C.Has X → Own X W → PS X st t) ∧ t D σ H
def wSs (C : Ctx) (W : WX) (sts : List Stmt) : TS := fun D σ H => ∃ t, (∀ X, C.Has X → Own X W → PSs X sts t) ∧ t D σ H
theorem ps_w {C : Ctx} {X : Cx} {W : WX} (h : C.Has X) (o : Own X W) {st : Stmt} : PS X st (wS C W st) := ⟨fun pins s σ H D I ⟨t, ht, q⟩ => (ht X h o).run pins s σ H D I q⟩
theorem pss_w {C : Ctx} {X : Cx} {W : WX} (h : C.Has X) (o : Own X W) {sts : List Stmt} : PSs X sts (wSs C W sts) := ⟨fun pins s σ H D I ⟨t, ht, q⟩ => (ht X h o).run pins s σ H D I q⟩
/-- how a statement ends -/
inductive Out where
  | nx (S : DS) (M : Mem)
  | rt (d : D) (M : Mem)
  | bk (S : DS) (M : Mem)
  | ct (S : DS) (M : Mem)
  | er (c : Addr) (S : DS) (M : Mem)
def OutP (K : PySem.W.Frag) (w : Wd) (H : Hp) (E : Ends) (W : WX) : Out → Prop
  | .nx S M => ∀ w' H' σ', Go w H w' H' → SatM K w' H' M → RepS K w' S σ' → E.nx σ' H'
  | .rt d M => ∀ w' H' y, Go w H w' H' → SatM K w' H' M → Rep K w' d y → E.rt y H'
  | .bk S M => ∀ w' H' σ', Go w H w' H' → SatM K w' H' M → RepS K w' S σ' → E.bk σ' H'
  | .ct S M => ∀ w' H' σ', Go w H w' H' → SatM K w' H' M → RepS K w' S σ' → E.ct σ' H'
  | .er c S M => ∀ w' H' σ', Go w H w' H' → SatM K w' H' M → RepS K w' S σ' → W (.ref c) none σ' H'
theorem OutP.go {K : PySem.W.Frag} {w w1 : Wd} {H H1 : Hp} {E : Ends} {W : WX} (l : Go w H w1 H1) : ∀ {o : Out}, OutP K w H E W o → OutP K w1 H1 E W o
  | .nx S M, h => fun w' H' σ' g => h w' H' σ' (l.trans g)
  | .rt d M, h => fun w' H' y g => h w' H' y (l.trans g)
  | .bk S M, h => fun w' H' σ' g => h w' H' σ' (l.trans g)
  | .ct S M, h => fun w' H' σ' g => h w' H' σ' (l.trans g)
  | .er c S M, h => fun w' H' σ' g => h w' H' σ' (l.trans g)
def SD (C : Ctx) (S : DS) (M : Mem) (st : Stmt) (o : Out) : Prop := ∀ W E w σ H, SatM C.K w H M → RepS C.K w S σ → OutP C.K w H E W o → wS C W st E σ H
def SDs (C : Ctx) (S : DS) (M : Mem) (sts : List Stmt) (o : Out) : Prop := ∀ W E w σ H, SatM C.K w H M → RepS C.K w S σ → OutP C.K w H E W o → wSs C W sts E σ H
/-- an expression that raises -/
def EX (C : Ctx) (S : DS) (M : Mem) (e : Expr) (c : Addr) (M' : Mem) : Prop := ∀ (W : WX) w σ H, SatM C.K w H M → RepS C.K w S σ → (∀ w' H', Go w H w' H' → SatM C.K w' H' M' → W (.ref c) none σ H') →
  ∃ t, (∀ X, C.Has X → Own X W → PE X e t) ∧ ∀ Q, t σ H Q

section
variable {C : Ctx} {S S' S1 : DS} {M M1 M2 M3 M' : Mem} {a b c e : Expr} {es : List Expr} {st : Stmt} {rest sts as bs : List Stmt} {da db dc d : D} {ds : List D} {pos p2 : Pos} {x : Str} {k k1 k2 : Bool} {o : Out} {cl : Addr}
theorem SD.of {t : WX → TS} (h : ∀ W X, C.Has X → Own X W → PS X st (t W)) (hq : ∀ W E w σ H, SatM C.K w H M → RepS C.K w S σ → OutP C.K w H E W o → t W E σ H) : SD C S M st o :=
  fun W E w σ H hs hr q => ⟨t W, fun X hX ow => h W X hX ow, hq W E w σ H hs hr q⟩
theorem SDs.of {t : WX → TS} (h : ∀ W X, C.Has X → Own X W → PSs X sts (t W)) (hq : ∀ W E w σ H, SatM C.K w H M → RepS C.K w S σ → OutP C.K w H E W o → t W E σ H) : SDs C S M sts o :=
  fun W E w σ H hs hr q => ⟨t W, fun X hX ow => h W X hX ow, hq W E w σ H hs hr q⟩
theorem sds_nil : SDs C S M [] (.nx S M) := SDs.of (t := fun _ => tNext) (fun W X hX ow => pss_nil) fun W E w σ H hs hr q => q w H σ (.refl w) hs hr
theorem sds_cons (h1 : SD C S M st (.nx S1 M1)) (h2 : SDs C S1 M1 rest o) : SDs C S M (st :: rest) o :=
  SDs.of (t := fun W => tSeq (wS C W st) (wSs C W rest)) (fun W X hX ow => pss_cons (ps_w hX ow) (pss_w hX ow)) fun W E w σ H hs hr q =>
    h1 W { E with nx := wSs C W rest E } w σ H hs hr fun w1 H1 σ1 l1 s1 r1 => h2 W E w1 σ1 H1 s1 r1 (q.go l1)
/-- a statement behind which nothing is run -/
def Out.stops : Out → Bool
  | .nx _ _ => false
  | _ => true
theorem sds_stop (h1 : SD C S M st o) (hs : o.stops = true := by rfl) : SDs C S M (st :: rest) o :=
  SDs.of (t := fun W => tSeq (wS C W st) tNever) (fun W X hX ow => pss_cons (ps_w hX ow) pss_never) fun W E w σ H hsat hr q =>
    h1 W { E with nx := tNever E } w σ H hsat hr (by
      cases o with
      | nx _ _ => cases hs
      | rt _ _ => exact q
      | bk _ _ => exact q
      | ct _ _ => exact q
      | er _ _ _ => exact q)
theorem sds_one (h1 : SD C S M st o) : SDs C S M [st] o :=
  SDs.of (t := fun W => wS C W st) (fun W X hX ow => pss_one (ps_w hX ow)) fun W E w σ H hs hr q => h1 W E w σ H hs hr q
theorem sd_pass : SD C S M (.Pass pos) (.nx S M) := SD.of (t := fun _ => tNext) (fun W X hX ow => ps_pass) fun W E w σ H hs hr q => q w H σ (.refl w) hs hr
theorem sd_continue : SD C S M (.Continue pos) (.ct S M) := SD.of (t := fun _ => tCont) (fun W X hX ow => ps_continue) fun W E w σ H hs hr q => q w H σ (.refl w) hs hr
theorem sd_expr (h : ED C S M e d M1) (hs : ∀ p, swapsWith e none pos.line (C.env p) = pure false := by intro _; rfl) : SD C S M (.Expr e pos) (.nx S M1) :=
  SD.of (t := fun _ => tDrop (wE C e)) (fun W X hX ow => by cases hX with | mk p s0 H0 outer stack ex pn xe hpn => exact ps_expr (pe_w (.mk p s0 H0 outer stack ex pn xe hpn)) (hs p)) fun W E w σ H hsat hr q =>
    h w σ H hsat hr _ fun w1 H1 y l s r => q w1 H1 σ l s (hr.go l)
theorem sd_exprX (h : EX C S M e cl M1) (hs : ∀ p, swapsWith e none pos.line (C.env p) = pure false := by intro _; rfl) : SD C S M (.Expr e pos) (.er cl S M1) := fun W E w σ H hsat hr q => by
  obtain ⟨t, ht, hq⟩ := h W w σ H hsat hr fun w1 H1 l s => q w1 H1 σ l s (hr.go l)
  exact ⟨tDrop t, fun X hX ow => by
    have z := ht X hX ow
    cases hX with | mk p => exact ps_expr z (hs p), hq _⟩
theorem sd_ret (h : ED C S M e d M1) : SD C S M (.Return (some e) pos) (.rt d M1) :=
  SD.of (t := fun _ => tRet (wE C e)) (fun W X hX ow => ps_ret (pe_w hX)) fun W E w σ H hsat hr q => h w σ H hsat hr _ fun w1 H1 y l s r => q w1 H1 y l s r
theorem sd_retX (h : EX C S M e cl M1) : SD C S M (.Return (some e) pos) (.er cl S M1) := fun W E w σ H hsat hr q => by
  obtain ⟨t, ht, hq⟩ := h W w σ H hsat hr fun w1 H1 l s => q w1 H1 σ l s (hr.go l)
  exact ⟨tRet t, fun X hX ow => ps_ret (ht X hX ow), hq _⟩
theorem sd_retN : SD C S M (.Return none pos) (.rt (.v .non) M) :=
  SD.of (t := fun _ => tRetN) (fun W X hX ow => ps_retN) fun W E w σ H hsat hr q => q w H _ (.refl w) hsat rep_v'
theorem sd_if (h : TD C S M c k M1) (h1 : k = true → SDs C S M1 as o) (h2 : k = false → SDs C S M1 bs o) : SD C S M (.If c as bs pos) o :=
  SD.of (t := fun W => tIfS (wT C c) (wSs C W as) (wSs C W bs)) (fun W X hX ow => ps_if (pt_w hX) (pss_w hX ow) (pss_w hX ow)) fun W E w σ H hsat hr q => h w σ H hsat hr _ fun w1 H1 l s => by
    cases k with
    | true => exact h1 rfl W E w1 σ H1 s (hr.go l) (q.go l)
    | false => exact h2 rfl W E w1 σ H1 s (hr.go l) (q.go l)
/-- an if whose test is known -/
theorem sd_ifT (h : TD C S M c k M1) (hk : k = true) (h1 : SDs C S M1 as o) : SD C S M (.If c as bs pos) o := sd_if h (fun _ => h1) fun z => by rw [hk] at z; cases z
theorem sd_ifF (h : TD C S M c k M1) (hk : k = false) (h1 : SDs C S M1 bs o) : SD C S M (.If c as bs pos) o := sd_if h (fun z => by rw [hk] at z; cases z) fun _ => h1
/-- .. without else: it is not taken -/
theorem sd_ifN (h : TD C S M c k M1) (hk : k = false) : SD C S M (.If c as [] pos) (.nx S M1) := sd_ifF h hk sds_nil

/-! ### targets -/
theorem gd_name {y : Str} (i : Nat) (hN : C.N.Nodup) (hi : C.N[i]? = some y := by rfl) (hx : ∀ p, Loc (C.env p).scope y := by intro _; first | exact Or.inl rfl | exact Or.inr rfl) (hf : ∀ p, C.fn y = true ∨ (C.env p).scope.names.lookup y = some .local := by intro _; first | exact Or.inl rfl | exact Or.inr rfl) :
    GD C S (.Name y pos) d (S.set i (some d)) [i] := fun w σ H M v hsat hr r Q q =>
  ⟨gName i, fun X hX => by cases hX with | mk p => exact pg_name hN hi (hx p) (hf p), q (σ.set i (some v)) (hr.set r) (by simp) fun j hj => by
    rw [List.getElem?_set_ne (by simpa using fun e => hj (by simp [e]))]⟩
theorem gsd_nil : GsD C S [] [] S [] := fun w σ H M ys hsat hr r Q q =>
  ⟨gNil, fun X hX => pgs_nil, reps_nil.mp r, q σ hr rfl fun _ _ => rfl⟩
theorem gsd_cons {tg : Expr} {ts : List Expr} {S2 : DS} {vs vs2 : List Nat} (h1 : GD C S tg d S1 vs) (h2 : GsD C S1 ts ds S2 vs2)
    (hs : ∀ p, (assignEach (tg :: ts) (C.env p)).map (·.2) = assign tg (C.env p) :: (assignEach ts (C.env p)).map (·.2) := by intro _; rfl) : GsD C S (tg :: ts) (d :: ds) S2 (vs ++ vs2) := fun w σ H M ys hsat hr r Q q => by
  rw [reps_cons] at r
  obtain ⟨y, yr, rfl, r1, r2⟩ := r
  refine ⟨gCons (wG C tg) (wGs C ts), fun X hX => by cases hX with | mk p s0 H0 outer stack ex pn xe hpn => exact pgs_cons (pg_w (.mk p s0 H0 outer stack ex pn xe hpn)) (pgs_w (.mk p s0 H0 outer stack ex pn xe hpn)) (hs p), y, yr, rfl, ?_⟩
  refine h1 w σ H M y hsat hr r1 _ fun σ1 hr1 hl1 k1 => h2 w σ1 H M yr hsat hr1 r2 Q fun σ2 hr2 hl2 k2 => q σ2 hr2 (hl2.trans hl1) fun i hi => ?_
  have this : ¬ (i ∈ vs ∨ i ∈ vs2) := fun z => hi (List.mem_append.mpr z)
  exact (k2 i fun z => this (.inr z)).trans (k1 i fun z => this (.inl z))
theorem gd_tup {ts : List Expr} {kk : Nat} {vs : List Nat} (h : GsD C S ts ds S1 vs) (hc : C.calm = true) (hn : ∀ p, (assignEach ts (C.env p)).length = ds.length := by intro _; rfl) (hst : ∀ p, (assignEach ts (C.env p)).findIdx? (·.1) = none := by intro _; rfl) :
    GD C S (.Tuple ts kk pos) (.tup ds) S1 vs := fun w σ H M v hsat hr r Q q => by
  obtain ⟨p, us, rfl, st, rs⟩ := hsat.tupH r
  refine ⟨gTup C.K ds.length (wGs C ts), fun X hX => ?_, p, us, rfl, st, rs.length, ?_⟩
  · cases hX with | mk p s0 H0 outer stack ex pn xe hpn => exact pg_tup hc (pgs_w (.mk p s0 H0 outer stack ex pn xe hpn)) (hn p) (hst p)
  · exact h w σ H M us hsat hr rs Q q
/-- name = e -/
theorem sd_set {y : Str} {p' : Pos} (i : Nat) (h : ED C S M e d M1) (hN : C.N.Nodup) (hi : C.N[i]? = some y := by rfl) (hx : ∀ p, Loc (C.env p).scope y := by intro _; first | exact Or.inl rfl | exact Or.inr rfl) (hs : ∀ p, swapsWith e (some (.Name y p')) pos.line (C.env p) = pure false := by intro _; rfl)
    (hf : ∀ p, C.fn y = true ∨ (C.env p).scope.names.lookup y = some .local := by intro _; first | exact Or.inl rfl | exact Or.inr rfl) : SD C S M (.Assign [.Name y p'] e pos) (.nx (S.set i (some d)) M1) :=
  SD.of (t := fun _ => tAsg (wE C e) (gName i)) (fun W X hX ow => by cases hX with | mk p s0 H0 outer stack ex pn xe hpn => exact ps_set hN hi (hx p) (pe_w (.mk p s0 H0 outer stack ex pn xe hpn)) (hs p) (hf p)) fun W E w σ H hsat hr q =>
    h w σ H hsat hr _ fun w1 H1 v l s r => q w1 H1 _ l s ((hr.go l).set r)
theorem sd_setX {y : Str} {p' : Pos} (i : Nat) (h : EX C S M e cl M1) (hN : C.N.Nodup) (hi : C.N[i]? = some y := by rfl) (hx : ∀ p, Loc (C.env p).scope y := by intro _; first | exact Or.inl rfl | exact Or.inr rfl) (hs : ∀ p, swapsWith e (some (.Name y p')) pos.line (C.env p) = pure false := by intro _; rfl)
    (hf : ∀ p, C.fn y = true ∨ (C.env p).scope.names.lookup y = some .local := by intro _; first | exact Or.inl rfl | exact Or.inr rfl) : SD C S M (.Assign [.Name y p'] e pos) (.er cl S M1) := fun W E w σ H hsat hr q => by
  obtain ⟨t, ht, hq⟩ := h W w σ H hsat hr fun w1 H1 l s => q w1 H1 σ l s (hr.go l)
  exact ⟨tAsg t (gName i), fun X hX ow => by
    have z := ht X hX ow
    cases hX with | mk p => exact ps_set hN hi (hx p) z (hs p) (hf p), hq _⟩
/-- target = e -/
theorem sd_asg {tg : Expr} {vs : List Nat} (h : ED C S M e d M1) (hg : GD C S tg d S1 vs) (hs : ∀ p, swapsWithSole [tg] e pos.line (C.env p) = pure false := by intro _; rfl) (hw : ∀ p, swappedStores [tg] e (C.env p) = pure none := by intro _; rfl)
    (h1 : ∀ p, (assignEach [tg] (C.env p)).map (·.2) = [assign tg (C.env p)] := by intro _; rfl) : SD C S M (.Assign [tg] e pos) (.nx S1 M1) :=
  SD.of (t := fun _ => tAsg (wE C e) (wG C tg)) (fun W X hX ow => by cases hX with | mk p s0 H0 outer stack ex pn xe hpn => exact ps_asg (pe_w (.mk p s0 H0 outer stack ex pn xe hpn)) (pg_w (.mk p s0 H0 outer stack ex pn xe hpn)) (hs p) (hw p) (h1 p)) fun W E w σ H hsat hr q =>
    h w σ H hsat hr _ fun w1 H1 v l s r => hg w1 σ H1 M1 v s (hr.go l) r _ fun σ' hr' _ _ => q w1 H1 σ' l s hr'

/-! ### a def -/
inductive Res where
  | ok (d : D) (M : Mem)
  | er (c : Addr) (M : Mem)
def ResP (K : PySem.W.Frag) (w : Wd) (H : Hp) (Q : VK) (E : XK) : Res → Prop
  | .ok d M => ∀ w' H' y, Go w H w' H' → SatM K w' H' M → Rep K w' d y → Q y H'
  | .er c M => ∀ w' H', Go w H w' H' → SatM K w' H' M → E (.ref c) none H'
/-- what a def does: arguments, the changing things, the result -/
abbrev Spc := List D → Mem → Res → Prop
def spD (K : PySem.W.Frag) (n : Nat) (f : Spc) : Sp := fun vs H Q E => vs.length = n ∧ ∃ w M ds r, SatM K w H M ∧ Reps K w ds vs ∧ f ds M r ∧ ResP K w H Q E r
/-- a def stands under the name x and does f -/
def FD (P : Program) (w : World) (K : PySem.W.Frag) (mg : Str → Option Value) (base : Heap) (k : Nat) (x : Str) (n : Nat) (f : Spc) : Prop :=
  ∃ (fa : Addr) (fd : FuncData) (ps : List Str), FnOk P w K mg base (L2.CX P w) k fa fd ps (spD K n f) ∧ mg x = some (.ref fa) ∧ PySem.W.keepIn K (.ref fa) = true ∧ Binds K fd ps []
theorem ed_call {n kk : Nat} {f : Spc} (F : FD C.prog C.w C.K C.mg C.base kk x n f) (hr : Room kk C.A) (ha : AD C S M (e :: es) ds M1) (hf : f ds M1 (.ok d M2)) (hl : ds.length = n := by rfl) (hg : ∀ p, (C.env p).kindOf x = some .globalImplicit := by intro _; rfl)
    (hdb : (x == ("__debug__" : Str)) = false := by decide) (he : ∀ p, starEach (e :: es) (C.env p) = (false, eval e (C.env p)) :: starEach es (C.env p) := by intro _; rfl) (hpl : ∀ p, (backTo pos (starEach es (C.env p))).any (·.1) = false := by intro _; rfl) : ED C S M (.Call (.Name x p2) (e :: es) [] pos) d M2 := by
  obtain ⟨fa, fd, ps, G, hm, hk, hb⟩ := F
  refine ED.of (t := tCallS (spD C.K n f) (fun _ => E0) (wA C (e :: es))) (fun X hX => ?_) fun w σ H hsat hrp Q q => ha w σ H hsat hrp _ fun w1 H1 ys l1 s1 r1 => ?_
  · cases hX with | mk p s0 H0 outer stack ex pn xe hpn =>
      exact pe_callS G hr (hg p) hm hk hb (fun σ => passAt (W := fun _ _ _ _ => False) takes0 σ) (pa_w (.mk p s0 H0 outer stack ex pn xe hpn)) hdb (he p) (hpl p)
  · exact ⟨r1.length.trans hl, w1, M1, ds, _, s1, r1, hf, fun w2 H2 y l2 s2 r2 => q w2 H2 y (l1.trans l2) s2 r2⟩
theorem ex_call {n kk : Nat} {f : Spc} (F : FD C.prog C.w C.K C.mg C.base kk x n f) (hr : Room kk C.A) (ha : AD C S M (e :: es) ds M1) (hf : f ds M1 (.er cl M2)) (hl : ds.length = n := by rfl) (hg : ∀ p, (C.env p).kindOf x = some .globalImplicit := by intro _; rfl)
    (hdb : (x == ("__debug__" : Str)) = false := by decide) (he : ∀ p, starEach (e :: es) (C.env p) = (false, eval e (C.env p)) :: starEach es (C.env p) := by intro _; rfl) (hpl : ∀ p, (backTo pos (starEach es (C.env p))).any (·.1) = false := by intro _; rfl) : EX C S M (.Call (.Name x p2) (e :: es) [] pos) cl M2 := fun W w σ H hsat hrp q => by
  obtain ⟨fa, fd, ps, G, hm, hk, hb⟩ := F
  refine ⟨tCallS (spD C.K n f) (WE W) (wA C (e :: es)), fun X hX ow => ?_, fun Q => ha w σ H hsat hrp _ fun w1 H1 ys l1 s1 r1 => ?_⟩
  · cases hX with | mk p s0 H0 outer stack ex pn xe hpn =>
      exact pe_callS G hr (hg p) hm hk hb (fun σ => passAt ow.tk σ) (pa_w (.mk p s0 H0 outer stack ex pn xe hpn)) hdb (he p) (hpl p)
  · exact ⟨r1.length.trans hl, w1, M1, ds, _, s1, r1, hf, fun w2 H2 l2 s2 => q w2 H2 (l1.trans l2) s2⟩
end

/-- the context of a def's body -/
def fnC (P : Program) (w : World) (K : PySem.W.Frag) (mg : Str → Option Value) (base : Heap) (N : List Str) (qual : Str) (scope : Scope) (A : Around) : Ctx where
  prog := P
  w := w
  K := K
  mg := mg
  base := base
  A := A
  N := N
  P := Nat × Addr × Value
  env := fun q => envOfC qual scope q.1 q.2.1 q.2.2
  fn := fun _ => true
  calm := true
  pnOk := fun _ _ => True
def startS (N : List Str) (ds : List D) : DS := ds.map some ++ List.replicate (N.length - ds.length) none
/-- a body's end as a call's -/
def outRes : Out → Option Res
  | .rt d M => some (.ok d M)
  | .nx _ M => some (.ok (.v .non) M)
  | .er c _ M => some (.er c M)
  | _ => none
theorem reps_start {K : PySem.W.Frag} {w : Wd} {N : List Str} {ds : List D} {vs : List V} (r : Reps K w ds vs) : RepS K w (startS N ds) (L2.start N vs) := by
  refine ⟨by unfold startS L2.start; simp [r.length], fun i d h => ?_⟩
  unfold startS at h
  unfold L2.start
  by_cases hi : i < ds.length
  · rw [List.getElem?_append_left (by simpa using hi), List.getElem?_map] at h
    cases q : ds[i]? with
    | none => rw [q] at h; cases h
    | some d' =>
      rw [q] at h
      have e : d' = d := by simpa using h
      subst e
      obtain ⟨y, hy, ry⟩ := r.get q
      exact ⟨y, by rw [List.getElem?_append_left (by simpa [r.length] using hi), List.getElem?_map, hy]; rfl, ry⟩
  · rw [List.getElem?_append_right (by simpa using hi), List.getElem?_replicate] at h
    split at h <;> cases h
/-- THE RULE for a def: its body does f -/
theorem fnok_of {P : Program} {w : World} {K : PySem.W.Frag} {mg : Str → Option Value} {base : Heap} {k n : Nat} {x qual : Str} {params : Arguments} {body : List Stmt} {scope : Scope} {f : Spc} {fa : Addr} {fd : FuncData} {N ps : List Str}
    (F : FunD K x qual params body scope [] [] fa fd) (Sc : FnScope N ps scope) (hn : ps.length = n)
    (h : ∀ (A : Around) (ds : List D) (M : Mem) (r : Res), Room k A → ds.length = n → f ds M r → ∃ o, outRes o = some r ∧ SDs (fnC P w K mg base N qual scope A) (startS N ds) M body o) : FnOk P w K mg base (L2.CX P w) (k + 1) fa fd ps (spD K n f) := by
  refine F.ok Sc (fun vs H Q E h => h.1.trans hn.symm) (fun cdv A outer s H vs Q E hr hsp => ?_)
  obtain ⟨hl, w0, M, ds, r, hsat, hrep, hf, hres⟩ := hsp
  obtain ⟨o, ho, hS⟩ := h (A.deeper (envOfC qual scope s.heap.objs.size fa cdv)) ds M r hr (hrep.length.symm.trans hl) hf
  have key := hS (fun cls d _ H => E cls d H) { nx := fun _ H' => Q .non H', rt := Q } w0 (L2.start N vs) H hsat (reps_start hrep) (by
    cases o with
    | nx S1 M1 =>
      cases ho
      exact fun w' H' σ' l s _ => hres w' H' _ l s rep_v'
    | rt d1 M1 =>
      cases ho
      exact hres
    | bk _ _ => cases ho
    | ct _ _ => cases ho
    | er c1 S1 M1 =>
      cases ho
      exact fun w' H' σ' l s _ => hres w' H' l s)
  obtain ⟨t, ht, hq⟩ := key
  exact ⟨t, ht _ (Ctx.Has.mk (C := fnC P w K mg base N qual scope (A.deeper (envOfC qual scope s.heap.objs.size fa cdv))) (s.heap.objs.size, fa, cdv) s H outer (envOfC qual scope s.heap.objs.size fa cdv :: outer) [] [] _ trivial) ⟨takes_of rfl rfl rfl rfl, passes_of rfl, rfl, rfl⟩, hq⟩
theorem fd_of {P : Program} {w : World} {K : PySem.W.Frag} {mg : Str → Option Value} {base : Heap} {k n : Nat} {x qual : Str} {params : Arguments} {body : List Stmt} {scope : Scope} {f : Spc} {fa : Addr} {fd : FuncData} {N ps : List Str}
    (F : FunD K x qual params body scope [] [] fa fd) (hm : mg x = some (.ref fa)) (Sc : FnScope N ps scope) (hn : ps.length = n)
    (hb : ∀ (kV doc pm : Value) (an : Option Addr) (cdv ct : Value) (us : List Value), us.length = ps.length → bindArgs (PySem.W.fnOf x qual params body scope .none kV doc pm an cdv ct) ⟨us, []⟩ = pure (ps.zip us))
    (h : ∀ (A : Around) (ds : List D) (M : Mem) (r : Res), Room k A → ds.length = n → f ds M r → ∃ o, outRes o = some r ∧ SDs (fnC P w K mg base N qual scope A) (startS N ds) M body o) : FD P w K mg base (k + 1) x n f :=
  ⟨fa, fd, ps, fnok_of F Sc hn h, hm, F.kp, F.bindsN hb⟩
/-- what raises nothing -/
theorem FnOk.to0 {P : Program} {w : World} {K : PySem.W.Frag} {mg : Str → Option Value} {base : Heap} {k : Nat} {fa : Addr} {fd : FuncData} {ps : List Str} {sp : Sp} (F : FnOk P w K mg base (L2.CX P w) k fa fd ps sp) : FnOk P w K mg base CX0 k fa fd ps (fun vs H Q _ => sp vs H Q E0) :=
  ⟨fun vs H Q E h => F.len _ _ _ _ h, fun A outer s H args us vs Q E hr he hb hv hs => codeAny_mono (F.run A outer s H args us vs Q E0 hr he hb hv hs) fun r s' h => by
    cases r with
    | ok f =>
      cases f with
      | ret u => exact h
      | next => exact h
      | brk => exact h
      | cont => exact h
    | error e =>
      obtain ⟨_, _, _, _, _, _, _, _, _, _, _, _, z⟩ := h
      exact z.elim⟩
/-- the law's entry -/
theorem law_entry {K : PySem.W.Frag} {f : Spc} {H : Hp} {a : Addr} {ns : List Int} (hS : SqL K H a (ns.map V.int)) (hf : ∃ M', f [.lst (ns.map fun i => .v (.int i))] [] (.ok (.v (.bl true)) M')) : spD K 1 f [.ref a] H (fun v _ => v = .bl true) E0 := by
  obtain ⟨M', hf⟩ := hf
  refine ⟨rfl, ⟨[], H⟩, [], _, _, ⟨Same.refl _, rfl, List.nodup_nil, fun n p mo e => by simp at e⟩, reps_cons' (rep_lst.mpr ⟨a, _, rfl, hS, ?_⟩) reps_nil', hf, fun w' H' y _ _ r => rep_v.mp r⟩
  have e : (ns.map fun i => D.v (.int i)) = (ns.map V.int).map D.v := by rw [List.map_map]; rfl
  rw [e]
  exact reps_vs.mpr rfl
end DL
set_option maxHeartbeats 2000000
namespace DL
open PySem PySem.Spec PyProof.Rows L2

/-! ### what is walked -/
/-- the iterator gives the items, as long as PM holds of the changing things -/
def ItOk (K : PySem.W.Frag) (w : Wd) (PM : Mem → Prop) (items : List D) (J : It) : Prop := ∀ i w1 H1 M1, w.le w1 → SatM K w1 H1 M1 → PM M1 → (items.length ≤ i → J.stop i H1) ∧
  ∀ d, items[i]? = some d → J.go i H1 ∧ ∀ x H2, J.yld i H1 x H2 → ∃ w2, Go w1 H1 w2 H2 ∧ SatM K w2 H2 M1 ∧ Rep K w2 d x
def ID (C : Ctx) (S : DS) (M : Mem) (tg e : Expr) (items : List D) (PM : Mem → Prop) (M' : Mem) : Prop := ∀ w σ H, SatM C.K w H M → RepS C.K w S σ → ∀ R : It → Hp → Prop,
  (∀ w' H' J, Go w H w' H' → SatM C.K w' H' M' → ItOk C.K w' PM items J → R J H') → wI C tg e σ H R
abbrev PAny : Mem → Prop := fun _ => True
abbrev dInt (i : Int) : D := .v (.int i)
def rngD (n : Nat) : List D := (List.range n).map fun (i : Nat) => dInt (i : Int)
theorem rngD_length (n : Nat) : (rngD n).length = n := by simp [rngD]
theorem rngD_get {n i : Nat} {d : D} (h : (rngD n)[i]? = some d) : i < n ∧ d = dInt (i : Int) := by
  unfold rngD at h
  rw [List.getElem?_map] at h
  by_cases hi : i < n
  · rw [List.getElem?_range hi] at h
    exact ⟨hi, by cases h; rfl⟩
  · rw [List.getElem?_eq_none (by simpa using hi)] at h
    cases h
section
variable {C : Ctx} {S S' S1 : DS} {M M1 M2 M' : Mem} {tg a b e e2 : Expr} {es : List Expr} {ds ds2 items : List D} {d : D} {pos p2 tpos : Pos} {PM : Mem → Prop}
theorem id_tup (h : ED C S M e (.tup ds) M') : ID C S M tg e ds PAny M' := fun w σ H hs hp R q => ⟨iTup C.K (wE C e), fun X hX => by
  have z : PI X tg e (iTup X.K (wE C e)) := pi_tup (pe_w hX)
  cases hX with | mk p => exact z, h w σ H hs hp _ fun w1 H1 y l s r => by
    rw [rep_tup] at r
    obtain ⟨p, vs, rfl, st0, rs⟩ := r
    have st : SqT C.K w1.F p vs := .of st0
    refine ⟨p, rfl, ⟨vs, same_t s.same st⟩, q w1 H1 _ l s fun i w2 H2 M2 l2 s2 _ => ?_⟩
    have st2 : SqT C.K H2 p vs := same_t s2.same (same_t l2.same st)
    refine ⟨fun hi => ⟨vs, st2, by rw [rs.length]; exact hi⟩, fun d hd => ?_⟩
    obtain ⟨x, hx, rx⟩ := rs.get hd
    refine ⟨⟨vs, x, st2, hx⟩, fun y H3 hy => ?_⟩
    obtain ⟨rfl, hy⟩ := hy
    have e := hy vs st2
    rw [hx] at e; cases e
    exact ⟨w2, .refl w2, s2, rx.mono l2⟩⟩
theorem id_lst (h : ED C S M e (.lst ds) M') : ID C S M tg e ds PAny M' := fun w σ H hs hp R q => ⟨iList C.K (wE C e), fun X hX => by
  have z : PI X tg e (iList X.K (wE C e)) := pi_list (pe_w hX)
  cases hX with | mk p => exact z, h w σ H hs hp _ fun w1 H1 y l s r => by
    rw [rep_lst] at r
    obtain ⟨p, vs, rfl, st, rs⟩ := r
    refine ⟨p, rfl, ⟨vs, same_l s.same st⟩, q w1 H1 _ l s fun i w2 H2 M2 l2 s2 _ => ?_⟩
    have st2 : SqL C.K H2 p vs := same_l s2.same (same_l l2.same st)
    refine ⟨fun hi => ⟨vs, st2, by rw [rs.length]; exact hi⟩, fun d hd => ?_⟩
    obtain ⟨x, hx, rx⟩ := rs.get hd
    refine ⟨⟨vs, x, st2, hx⟩, fun y H3 hy => ?_⟩
    obtain ⟨rfl, hy⟩ := hy
    have e := hy vs st2
    rw [hx] at e; cases e
    exact ⟨w2, .refl w2, s2, rx.mono l2⟩⟩
/-- a list that may change, but does not in the loop -/
theorem id_res {n : Nat} (h : ED C S M e (.res n) M') (hM : M'[n]? = some (.lst ds)) : ID C S M tg e ds (fun M => M[n]? = some (.lst ds)) M' := fun w σ H hs hp R q => ⟨iList C.K (wE C e), fun X hX => by
  have z : PI X tg e (iList X.K (wE C e)) := pi_list (pe_w hX)
  cases hX with | mk p => exact z, h w σ H hs hp _ fun w1 H1 y l s r => by
    rw [rep_res] at r
    obtain ⟨p, hp1, rfl⟩ := r
    have look : ∀ (w2 : Wd) (H2 : Hp) (M2 : Mem), w1.le w2 → SatM C.K w2 H2 M2 → M2[n]? = some (.lst ds) → ∃ vs, SqL C.K H2 p vs ∧ Reps C.K w2 ds vs := fun w2 H2 M2 l2 s2 h2 => by
      obtain ⟨p', o, e1, e2, vs, rfl, r⟩ := s2.res h2
      rw [l2.at hp1] at e1; cases e1
      exact ⟨vs, SqL.of e2, r⟩
    obtain ⟨vs, st, _⟩ := look w1 H1 M' (.refl _) s hM
    refine ⟨p, rfl, ⟨vs, st⟩, q w1 H1 _ l s fun i w2 H2 M2 l2 s2 h2 => ?_⟩
    obtain ⟨vs2, st2, rs⟩ := look w2 H2 M2 l2 s2 h2
    refine ⟨fun hi => ⟨vs2, st2, by rw [rs.length]; exact hi⟩, fun d hd => ?_⟩
    obtain ⟨x, hx, rx⟩ := rs.get hd
    refine ⟨⟨vs2, x, st2, hx⟩, fun y H3 hy => ?_⟩
    obtain ⟨rfl, hy⟩ := hy
    have e := hy vs2 st2
    rw [hx] at e; cases e
    exact ⟨w2, .refl w2, s2, rx⟩⟩
theorem id_range1 {n : Int} (h : AD C S M [a] [dInt n] M') (h1 : -(2 ^ 62) ≤ n) (h2 : n < 2 ^ 62) (hm : C.mg "range" = none) (hg : ∀ p, (C.env p).kindOf "range" = some .globalImplicit := by intro _; rfl) (hs : ∀ p, starEach [a] (C.env p) = [(false, eval a (C.env p))] := by intro _; rfl) :
    ID C S M tg (.Call (.Name "range" p2) [a] [] pos) (rngD n.toNat) PAny M' := fun w σ H hsat hp R q => ⟨iRng1 (wA C [a]), fun X hX => by
  cases hX with | mk p s0 H0 outer stack ex pn xe hpn => exact pi_range1 (hg p) hm (pa_w (.mk p s0 H0 outer stack ex pn xe hpn)) (hs p), h w σ H hsat hp _ fun w1 H1 ys l s r => by
    rw [show [dInt n] = [V.int n].map D.v from rfl, reps_vs] at r
    refine ⟨n, r, h1, h2, q w1 H1 _ l s fun i w2 H2 M2 l2 s2 _ => ⟨fun hi => by rw [rngD_length] at hi; exact hi, fun d hd => ?_⟩⟩
    obtain ⟨hi, rfl⟩ := rngD_get hd
    refine ⟨hi, fun y H3 hy => ?_⟩
    obtain ⟨rfl, rfl⟩ := hy
    refine ⟨w2, .refl w2, s2, ?_⟩
    rw [Int.zero_add]
    exact rep_v'⟩
def pairD (a b : D) : D := .tup [a, b]
theorem id_zipT {elts : List Expr} {kk : Nat} (h : AD C S M [e, e2] [.tup ds, .tup ds2] M') (hm : C.mg "zip" = none) (hg : ∀ p, (C.env p).kindOf "zip" = some .globalImplicit := by intro _; rfl)
    (hs : ∀ p, starEach [e, e2] (C.env p) = (false, eval e (C.env p)) :: starEach [e2] (C.env p) := by intro _; rfl) (hpl : ∀ p, (backTo pos (starEach [e2] (C.env p))).any (·.1) = false := by intro _; rfl) :
    ID C S M (.Tuple elts kk tpos) (.Call (.Name "zip" p2) [e, e2] [] pos) (List.zipWith pairD ds ds2) PAny M' := fun w σ H hsat hp R q => ⟨RZ.iZipA C.K (wA C [e, e2]), fun X hX => by
  cases hX with | mk p s0 H0 outer stack ex pn xe hpn => exact RZ.pi_zipA (X := ⟨C.prog, C.w, C.K, C.mg, C.base, C.A, C.N, s0, H0, C.env p, outer, stack, ex, C.fn, C.calm, pn, xe⟩) (hg p) hm (pa_w (.mk p s0 H0 outer stack ex pn xe hpn)) (hs p) (hpl p), h w σ H hsat hp _ fun w1 H1 ys l s r => by
    rw [reps_cons] at r
    obtain ⟨y1, yr, rfl, r1, r2⟩ := r
    rw [reps_cons] at r2
    obtain ⟨y2, yr2, rfl, r2, r3⟩ := r2
    rw [reps_nil] at r3
    subst r3
    rw [rep_tup] at r1 r2
    obtain ⟨p, vs, rfl, st0, rs⟩ := r1
    obtain ⟨p', vs', rfl, st0', rs'⟩ := r2
    have st : SqT C.K w1.F p vs := .of st0
    have st' : SqT C.K w1.F p' vs' := .of st0'
    refine ⟨p, p', vs, vs', rfl, .inr ⟨same_t s.same st, same_t s.same st', q w1 H1 _ l s fun i w2 H2 M2 l2 s2 _ => ?_⟩⟩
    have st2 : SqT C.K H2 p vs := same_t s2.same (same_t l2.same st)
    have st3 : SqT C.K H2 p' vs' := same_t s2.same (same_t l2.same st')
    refine ⟨fun hi => ⟨vs, vs', st2, st3, ?_⟩, fun d hd => ?_⟩
    · rw [rs.length, rs'.length]
      rw [List.length_zipWith] at hi
      omega
    · rw [List.getElem?_zipWith] at hd
      cases ea : ds[i]? with
      | none => rw [ea] at hd; cases hd
      | some da =>
        cases eb : ds2[i]? with
        | none => rw [ea, eb] at hd; cases hd
        | some db =>
          rw [ea, eb] at hd
          cases hd
          obtain ⟨x, hx, rx⟩ := rs.get ea
          obtain ⟨x', hx', rx'⟩ := rs'.get eb
          refine ⟨⟨vs, vs', x, x', st2, st3, hx, hx'⟩, fun y H3 hy => ?_⟩
          obtain ⟨T, z, z', rfl, hT, rfl, k1, k2⟩ := hy
          have e1 := k1 vs st2
          have e2 := k2 vs' st3
          rw [hx] at e1; cases e1
          rw [hx'] at e2; cases e2
          obtain ⟨g, s4, r4⟩ := s2.put_tup (ds := [da, db]) (ys := [x, x']) (reps_cons' (rx.mono l2) (reps_cons' (rx'.mono l2) reps_nil')) hT
          exact ⟨_, g, s4, r4⟩⟩
/-- enumerate of a list that nobody changes -/
theorem id_enum {elts : List Expr} {kk : Nat} (h : AD C S M [e] [.lst ds] M') (hm : C.mg "enumerate" = none) (hg : ∀ p, (C.env p).kindOf "enumerate" = some .globalImplicit := by intro _; rfl)
    (hs : ∀ p, starEach [e] (C.env p) = [(false, eval e (C.env p))] := by intro _; rfl) :
    ID C S M (.Tuple elts kk tpos) (.Call (.Name "enumerate" p2) [e] [] pos) (ds.zipIdx.map fun q => pairD (dInt (q.2 : Int)) q.1) PAny M' := fun w σ H hsat hp R q => ⟨iEnum C.K (wA C [e]), fun X hX => by
  cases hX with | mk p s0 H0 outer stack ex pn xe hpn => exact pi_enum (X := ⟨C.prog, C.w, C.K, C.mg, C.base, C.A, C.N, s0, H0, C.env p, outer, stack, ex, C.fn, C.calm, pn, xe⟩) (hg p) hm (pa_w (.mk p s0 H0 outer stack ex pn xe hpn)) (hs p), h w σ H hsat hp _ fun w1 H1 ys l s r => by
    rw [reps_cons] at r
    obtain ⟨y1, yr, rfl, r1, r2⟩ := r
    rw [reps_nil] at r2
    subst r2
    rw [rep_lst] at r1
    obtain ⟨p, vs, rfl, st, rs⟩ := r1
    refine ⟨p, vs, rfl, same_l s.same st, q w1 H1 _ l s fun i w2 H2 M2 l2 s2 _ => ?_⟩
    have st2 : SqL C.K H2 p vs := same_l s2.same (same_l l2.same st)
    refine ⟨fun hi => ⟨vs, st2, ?_⟩, fun d hd => ?_⟩
    · rw [rs.length]
      simpa using hi
    · rw [List.getElem?_map, List.getElem?_zipIdx] at hd
      cases ea : ds[i]? with
      | none => rw [ea] at hd; cases hd
      | some da =>
        rw [ea] at hd
        simp at hd
        subst hd
        obtain ⟨x, hx, rx⟩ := rs.get ea
        refine ⟨⟨vs, x, st2, hx⟩, fun y H3 hy => ?_⟩
        obtain ⟨T, z, rfl, hT, rfl, k1⟩ := hy
        have e1 := k1 vs st2
        rw [hx] at e1; cases e1
        obtain ⟨g, s4, r4⟩ := s2.put_tup (ds := [dInt (i : Int), da]) (ys := [.int (i : Int), x]) (reps_cons' rep_v' (reps_cons' (rx.mono l2) reps_nil')) hT
        exact ⟨_, g, s4, r4⟩⟩
end

/-! ### for -/
/-- the states of a loop, from turn i to its end -/
inductive Chain (step : Nat → DS → Mem → DS → Mem → Prop) (n : Nat) (S' : DS) (M' : Mem) : Nat → DS → Mem → Prop
  | done : Chain step n S' M' n S' M'
  | go {i : Nat} {S : DS} {M : Mem} {S1 : DS} {M1 : Mem} : i < n → step i S M S1 M1 → Chain step n S' M' (i + 1) S1 M1 → Chain step n S' M' i S M
theorem chain_of {step : Nat → DS → Mem → DS → Mem → Prop} {n : Nat} {Inv : Nat → DS → Mem → Prop} (h : ∀ i S M, i < n → Inv i S M → ∃ S1 M1, step i S M S1 M1 ∧ Inv (i + 1) S1 M1) :
    ∀ (k i : Nat) (S : DS) (M : Mem), i + k = n → Inv i S M → ∃ S' M', Inv n S' M' ∧ Chain step n S' M' i S M
  | 0, i, S, M, e, hi => by
    have : i = n := by omega
    subst this
    exact ⟨S, M, hi, .done⟩
  | k + 1, i, S, M, e, hi => by
    obtain ⟨S1, M1, hs, h1⟩ := h i S M (by omega) hi
    obtain ⟨S', M', hn, c⟩ := chain_of h k (i + 1) S1 M1 (by omega) h1
    exact ⟨S', M', hn, .go (by omega) hs c⟩
theorem Chain.le {step : Nat → DS → Mem → DS → Mem → Prop} {n : Nat} {S' : DS} {M' : Mem} {i : Nat} {S : DS} {M : Mem} (c : Chain step n S' M' i S M) : i ≤ n := by
  cases c with
  | done => exact Nat.le_refl _
  | go h _ _ => exact Nat.le_of_lt h
section
variable {C : Ctx} {S S' S1 : DS} {M M1 M2 M' : Mem} {tg e : Expr} {body : List Stmt} {items : List D} {pos : Pos} {PM : Mem → Prop}
/-- a turn of a loop's body -/
def Turn1 (C : Ctx) (tg : Expr) (body : List Stmt) (items : List D) (PM : Mem → Prop) (i : Nat) (S : DS) (M : Mem) (S2 : DS) (M2 : Mem) : Prop :=
  PM M ∧ ∀ d, items[i]? = some d → ∃ S1 vs, GD C S tg d S1 vs ∧ (SDs C S1 M body (.nx S2 M2) ∨ SDs C S1 M body (.ct S2 M2))
theorem sd_for_chain (hi : ID C S M tg e items PM M1) (hc : C.calm = true) (hch : Chain (Turn1 C tg body items PM) items.length S' M' 0 S M1) (hend : PM M')
    (hf : ∀ p, ∀ x, foldedSetIterable e (C.env p) x = pure x := by intro _ _; rfl) : SD C S M (.For tg e body [] pos) (.nx S' M') :=
  SD.of (t := fun W => tFor (wI C tg e) (wG C tg) (wSs C W body)) (fun W X hX ow => by
      have po := ow.po
      cases hX with | mk p s0 H0 outer stack ex pn xe hpn => exact ps_for po hc (pi_w (.mk p s0 H0 outer stack ex pn xe hpn)) (pg_w (.mk p s0 H0 outer stack ex pn xe hpn)) (pss_w (.mk p s0 H0 outer stack ex pn xe hpn) ow) (hf p)) fun W E w σ H hsat hr q =>
    hi w σ H hsat hr _ fun w1 H1 J l1 s1 hJ => by
      refine ⟨fun i m σ2 H2 => m = items.length - i ∧ ∃ Si Mi w2, Chain (Turn1 C tg body items PM) items.length S' M' i Si Mi ∧ Go w1 H1 w2 H2 ∧ SatM C.K w2 H2 Mi ∧ RepS C.K w2 Si σ2, ⟨_, rfl, S, M1, w1, hch, .refl w1, s1, hr.go l1⟩, ?_⟩
      rintro i m σ2 H2 ⟨rfl, Si, Mi, w2, c, l2, s2, r2⟩
      cases c with
      | done =>
        exact .inl ⟨(hJ _ w2 H2 _ l2.le s2 hend).1 (Nat.le_refl _), q w2 H2 σ2 (l1.trans l2) s2 r2⟩
      | go hlt st c' =>
        obtain ⟨pm, st⟩ := st
        have hd : items[i]? = some items[i] := List.getElem?_eq_getElem hlt
        obtain ⟨S1, vs, hg, hb⟩ := st _ hd
        obtain ⟨_, hgo⟩ := hJ i w2 H2 Mi l2.le s2 pm
        obtain ⟨g1, hy⟩ := hgo _ hd
        refine .inr ⟨g1, fun σ4 H4 => ∃ Si Mi w4, Chain (Turn1 C tg body items PM) items.length S' M' (i + 1) Si Mi ∧ Go w1 H1 w4 H4 ∧ SatM C.K w4 H4 Mi ∧ RepS C.K w4 Si σ4, fun σ4 H4 ⟨S4, M4, w4, c4, l4, s4, r4⟩ => ⟨items.length - (i + 1), by omega, rfl, S4, M4, w4, c4, l4, s4, r4⟩, fun x H3 hx => ?_⟩
        obtain ⟨w3, l3, s3, rx⟩ := hy x H3 hx
        refine hg w3 σ2 H3 Mi x s3 (r2.go l3) rx _ fun σ' hr' _ _ => ?_
        rcases hb with hb | hb
        · exact hb W _ w3 σ' H3 s3 hr' fun w4 H4 σ4 l4 s4 r4 => ⟨_, _, w4, c', (l2.trans l3).trans l4, s4, r4⟩
        · exact hb W _ w3 σ' H3 s3 hr' fun w4 H4 σ4 l4 s4 r4 => ⟨_, _, w4, c', (l2.trans l3).trans l4, s4, r4⟩
/-- for, by a word -/
theorem sd_for (hi : ID C S M tg e items PM M1) (hc : C.calm = true) (Iv : Nat → DS → Mem → Prop) (h0 : Iv 0 S M1) (hpm : ∀ i S M, Iv i S M → PM M)
    (hs : ∀ i d S M, items[i]? = some d → Iv i S M → ∃ S1 vs S2 M2, GD C S tg d S1 vs ∧ (SDs C S1 M body (.nx S2 M2) ∨ SDs C S1 M body (.ct S2 M2)) ∧ Iv (i + 1) S2 M2) (hf : ∀ p, ∀ x, foldedSetIterable e (C.env p) x = pure x := by intro _ _; rfl) :
    ∃ S' M', Iv items.length S' M' ∧ SD C S M (.For tg e body [] pos) (.nx S' M') := by
  obtain ⟨S', M', hn, c⟩ := chain_of (step := Turn1 C tg body items PM) (n := items.length) (Inv := Iv) (fun i S M hlt hv => by
    obtain ⟨S1, vs, S2, M2, hg, hb, h2⟩ := hs i items[i] S M (List.getElem?_eq_getElem hlt) hv
    refine ⟨S2, M2, ⟨hpm i S M hv, fun d hd => ?_⟩, h2⟩
    rw [List.getElem?_eq_getElem hlt] at hd
    cases hd
    exact ⟨S1, vs, hg, hb⟩) items.length 0 S M1 (by omega) h0
  exact ⟨S', M', hn, sd_for_chain hi hc c (hpm _ _ _ hn) hf⟩
end

/-- a for, then the rest -/
theorem sds_for {C : Ctx} {S : DS} {M M1 : Mem} {tg e : Expr} {body rest : List Stmt} {items : List D} {pos : Pos} {PM : Mem → Prop} {o : Out} (Iv : Nat → DS → Mem → Prop) (hi : ID C S M tg e items PM M1) (hc : C.calm = true) (h0 : Iv 0 S M1) (hpm : ∀ i S M, Iv i S M → PM M)
    (hs : ∀ i d S M, items[i]? = some d → Iv i S M → ∃ S1 vs S2 M2, GD C S tg d S1 vs ∧ (SDs C S1 M body (.nx S2 M2) ∨ SDs C S1 M body (.ct S2 M2)) ∧ Iv (i + 1) S2 M2) (hr : ∀ S' M', Iv items.length S' M' → SDs C S' M' rest o)
    (hf : ∀ p, ∀ x, foldedSetIterable e (C.env p) x = pure x := by intro _ _; rfl) : SDs C S M (.For tg e body [] pos :: rest) o := by
  obtain ⟨S', M', hv, h⟩ := sd_for hi hc Iv h0 hpm hs hf (pos := pos)
  exact sds_cons h (hr S' M' hv)

/-! ### comprehensions -/
def wipeD (S : DS) : List Nat → DS
  | [] => S
  | v :: vs => (wipeD S vs).set v none
theorem wipe_get (σ : L2.St) : ∀ (vs : List Nat) (i : Nat), (wipe σ vs)[i]? = if i ∈ vs then (σ[i]?).map (fun _ => none) else σ[i]?
  | [], i => by simp [wipe]
  | v :: vs, i => by
    unfold wipe
    by_cases hv : v = i
    · subst hv
      by_cases hl : v < σ.length
      · rw [List.getElem?_set_self (by rw [wipe_length]; exact hl)]
        simp [hl]
      · rw [List.getElem?_eq_none (by simpa [wipe_length] using hl)]
        simp [hl]
    · rw [List.getElem?_set_ne hv, wipe_get σ vs i]
      have : (i ∈ v :: vs) ↔ i ∈ vs := by simp [Ne.symm hv]
      simp [this]
theorem wipeD_get (S : DS) : ∀ (vs : List Nat) (i : Nat) (d : D), (wipeD S vs)[i]? = some (some d) → i ∉ vs ∧ S[i]? = some (some d)
  | [], i, d, h => ⟨by simp, h⟩
  | v :: vs, i, d, h => by
    unfold wipeD at h
    by_cases hv : v = i
    · subst hv
      by_cases hl : v < (wipeD S vs).length
      · rw [List.getElem?_set_self hl] at h; cases h
      · rw [List.getElem?_eq_none (by simpa using hl)] at h; cases h
    · rw [List.getElem?_set_ne hv] at h
      obtain ⟨h1, h2⟩ := wipeD_get S vs i d h
      exact ⟨by simp [Ne.symm hv, h1], h2⟩
theorem wipeD_length (S : DS) : ∀ vs : List Nat, (wipeD S vs).length = S.length
  | [] => rfl
  | v :: vs => by unfold wipeD; rw [List.length_set, wipeD_length S vs]
theorem RepS.wipe {K : PySem.W.Frag} {w : Wd} {S : DS} {σ : L2.St} (h : RepS K w S σ) (vs : List Nat) : RepS K w (wipeD S vs) (L2.wipe σ vs) := by
  refine ⟨by rw [wipeD_length, wipe_length]; exact h.len, fun i d e => ?_⟩
  obtain ⟨hi, e2⟩ := wipeD_get S vs i d e
  obtain ⟨y, e3, r⟩ := h.get i d e2
  exact ⟨y, by rw [wipe_get, if_neg hi]; exact e3, r⟩
theorem wipe_same {σ σ' : L2.St} {vs : List Nat} (hl : σ'.length = (L2.wipe σ vs).length) (h : ∀ i, i ∉ vs → σ'[i]? = (L2.wipe σ vs)[i]?) : L2.wipe σ' vs = L2.wipe σ vs := by
  apply List.ext_getElem?
  intro i
  rw [wipe_get, wipe_get]
  by_cases hi : i ∈ vs
  · rw [if_pos hi, if_pos hi]
    rw [wipe_length] at hl
    by_cases hlt : i < σ.length
    · simp [hlt, hl]
    · simp [hlt, hl]
  · rw [if_neg hi, if_neg hi, h i hi, wipe_get, if_neg hi]
theorem wipe_len {σ : L2.St} {vs : List Nat} : (L2.wipe σ vs).length = σ.length := wipe_length σ vs
section
variable {C : Ctx} {S S' S1 : DS} {M M1 M2 M' : Mem} {tg e elt : Expr} {ifs : List Expr} {items : List D} {pos : Pos} {PM : Mem → Prop} {scope : Scope} {own : List (Str × Nat)}
theorem tsd_nil : TsD C S M [] true M := fun w σ H hs hr Q q => ⟨tYes, fun X hX => pts_nil, q w H (.refl w) hs⟩
theorem tsd_one {c : Expr} {k : Bool} (h : TD C S M c k M') : TsD C S M [c] k M' := fun w σ H hs hr Q q => ⟨wT C c, fun X hX => pts_one (pt_w hX), h w σ H hs hr Q q⟩
/-- the places of a comprehension's own names -/
abbrev ownIx (own : List (Str × Nat)) : List Nat := own.map (·.2)
/-- one turn of a comprehension: what it adds -/
def LcTurn (C : Ctx) (scope : Scope) (vs : List Nat) (S : DS) (tg elt : Expr) (ifs : List Expr) (d : D) (r : List D) (M M' : Mem) : Prop :=
  ∃ S1, GD (C.blk scope) (wipeD S vs) tg d S1 vs ∧ ((TsD (C.blk scope) S1 M ifs false M' ∧ r = []) ∨ ∃ y M2, TsD (C.blk scope) S1 M ifs true M2 ∧ ED (C.blk scope) S1 M2 elt y M' ∧ r = [y])
/-- the reading of a comprehension: what stands behind its turns; Ms the changing things -/
theorem SatM.junk {K : PySem.W.Frag} {w : Wd} {H : Hp} {M : Mem} {p : Addr} {o : HO} (s : SatM K w H M) (h1 : p ∉ w.ρ) (h2 : w.F p = none) : SatM K w (upd H p o) M :=
  ⟨fun b u e => by rw [upd_ne (ne_of_none e h2)]; exact s.same b u e, s.len, s.nd, fun n q mo e1 e2 => by
    obtain ⟨f, o', e3, r⟩ := s.at_ n q mo e1 e2
    refine ⟨f, o', ?_, r⟩
    rw [upd_ne (by intro z; subst z; exact h1 (List.mem_of_getElem? e1))]
    exact e3⟩
theorem Go.junk {w w' : Wd} {H H' : Hp} {p : Addr} {o : HO} (g : Go w H w' H') (hp : H p = none) : Go w H w' (upd H' p o) :=
  ⟨g.le, fun a u e n => by rw [upd_ne (ne_of_none e hp)]; exact g.keep a u e n, g.newR, g.newF⟩
theorem SatM.fzn {K : PySem.W.Frag} {w : Wd} {H : Hp} {M : Mem} {p : Addr} {o : HO} (s : SatM K w H M) (h1 : p ∉ w.ρ) (h2 : w.F p = none) (h3 : H p = some o) : SatM K (w.put p o) H M :=
  ⟨fun b u e => by
    have e' : upd w.F p o b = some u := e
    by_cases hb : b = p
    · subst hb
      rw [upd_same] at e'
      rw [h3]; exact e'
    · rw [upd_ne hb] at e'
      exact s.same b u e', s.len, s.nd, fun n q mo e1 e2 => by
    obtain ⟨f, o', e3, r⟩ := s.at_ n q mo e1 e2
    have hq : q ≠ p := by intro z; subst z; exact h1 (List.mem_of_getElem? e1)
    exact ⟨by show upd w.F p o q = none; rw [upd_ne hq]; exact f, o', e3, r.mono (Wd.le_put h2)⟩⟩
theorem Go.fzn {w w' : Wd} {H H' : Hp} {p : Addr} {o : HO} (g : Go w H w' H') (h2 : w'.F p = none) (hp : H p = none) : Go w H (w'.put p o) H' :=
  ⟨g.le.trans (Wd.le_put h2), g.keep, g.newR, fun a u e => by
    have e' : upd w'.F p o a = some u := e
    by_cases ha : a = p
    · subst ha; exact .inr (.inl hp)
    · rw [upd_ne ha] at e'
      exact g.newF a u e'⟩
theorem Go.out {w w' : Wd} {H H' : Hp} {p : Addr} {o : HO} (g : Go w H w' H') (h1 : p ∉ w.ρ) (h2 : w.F p = none) (h3 : H p = some o) (ho : ∀ vs, o ≠ .tup vs := by intro _ z; cases z) : p ∉ w'.ρ ∧ w'.F p = none ∧ H' p = some o := by
  refine ⟨fun z => ?_, ?_, g.keep p o h3 h1⟩
  · rcases g.newR p z with q | q
    · exact h1 q
    · rw [h3] at q; cases q
  · cases z : w'.F p with
    | none => rfl
    | some u =>
      rcases g.newF p u z with q | q | q | ⟨vs, q⟩
      · rw [h2] at q; cases q
      · rw [h3] at q; cases q
      · exact absurd q h1
      · rw [h3] at q; cases q
        exact absurd rfl (ho vs)
theorem range_flat {f : Nat → List D} (n : Nat) : ((List.range (n + 1)).map f).flatten = ((List.range n).map f).flatten ++ f n := by
  rw [List.range_succ, List.map_append, List.flatten_append]; simp
theorem lc_read (hi : ID C S M tg e items PM M1) (f : Nat → List D) (Ms : Nat → Mem) (h0 : Ms 0 = M1) (hpm : ∀ i, i ≤ items.length → PM (Ms i)) (hsz : items.length ≤ 100000)
    (ht : ∀ i d, items[i]? = some d → LcTurn C scope (ownIx own) S tg elt ifs d (f i) (Ms i) (Ms (i + 1))) :
    ∀ w σ H, SatM C.K w H M → RepS C.K w S σ → ∀ Q : VK, (∀ w' H' p ys, Go w H w' H' → SatM C.K w' H' (Ms items.length) → p ∉ w'.ρ → w'.F p = none → H p = none → H' p = some (.lst ys) →
      Reps C.K w' ((List.range items.length).map f).flatten ys → Q (.ref p) H') → tLc (wI C tg e) (wG (C.blk scope) tg) (wTs (C.blk scope) ifs) (wE (C.blk scope) elt) (ownIx own) σ H Q := by
  intro w σ H hsat hr Q q
  refine hi w σ H hsat hr _ fun w1 H1 J l1 s1 hJ => fun Dl hD => ?_
  have hD1 : Dl ∉ w1.ρ := s1.fresh_ρ hD
  have hDF : w1.F Dl = none := s1.fz hD
  have hHD : H Dl = none := by
    cases z : H Dl with
    | none => rfl
    | some o =>
      by_cases hm : Dl ∈ w.ρ
      · obtain ⟨n, en⟩ := List.getElem?_of_mem hm
        exact absurd (List.mem_of_getElem? (l1.le.at en)) hD1
      · rw [l1.keep Dl o z hm] at hD; cases hD
  refine ⟨fun i m H2 => m = items.length - i ∧ i ≤ items.length ∧ ∃ w2 ys, Go w1 H1 w2 H2 ∧ SatM C.K w2 H2 (Ms i) ∧ Dl ∉ w2.ρ ∧ w2.F Dl = none ∧ H2 Dl = some (.lst ys) ∧ Reps C.K w2 ((List.range i).map f).flatten ys,
    ⟨items.length, by simp, Nat.zero_le _, w1, [], (Go.refl w1).junk hD, by rw [h0]; exact s1.junk hD1 hDF, hD1, hDF, upd_same, reps_nil'⟩, ?_⟩
  rintro i m H2 ⟨rfl, hle, w2, ys, l2, s2, k1, k2, k3, rys⟩
  by_cases hlt : i < items.length
  · have hd : items[i]? = some items[i] := List.getElem?_eq_getElem hlt
    obtain ⟨_, hgo⟩ := hJ i w2 H2 (Ms i) l2.le s2 (hpm i hle)
    obtain ⟨g1, hy⟩ := hgo _ hd
    refine .inr ⟨g1, fun H4 => ∃ w4 ys, Go w1 H1 w4 H4 ∧ SatM C.K w4 H4 (Ms (i + 1)) ∧ Dl ∉ w4.ρ ∧ w4.F Dl = none ∧ H4 Dl = some (.lst ys) ∧ Reps C.K w4 ((List.range (i + 1)).map f).flatten ys,
      fun H4 ⟨w4, ys4, a1, a2, a3, a4, a5, a6⟩ => ⟨items.length - (i + 1), by omega, rfl, hlt, w4, ys4, a1, a2, a3, a4, a5, a6⟩, fun x H3 hx => ?_⟩
    obtain ⟨w3, l3, s3, rx⟩ := hy x H3 hx
    obtain ⟨j1, j2, j3⟩ := l3.out k1 k2 k3
    obtain ⟨S1, hg, hb⟩ := ht i _ hd
    refine hg w3 (L2.wipe σ (ownIx own)) H3 (Ms i) x s3 ((hr.wipe (ownIx own)).mono (l1.le.trans (l2.le.trans l3.le))) rx _ fun σ' hr' hl' hk' => ?_
    refine ⟨wipe_same hl' hk', ?_⟩
    rw [range_flat]
    rcases hb with ⟨hb, hf⟩ | ⟨y, M2, hb, he, hf⟩
    · refine hb w3 σ' H3 s3 hr' _ fun w4 H4 l4 s4 => ?_
      obtain ⟨i1, i2, i3⟩ := l4.out j1 j2 j3
      rw [if_neg Bool.false_ne_true, hf, List.append_nil]
      exact ⟨w4, ys, (l2.trans l3).trans l4, s4, i1, i2, i3, rys.mono (l3.le.trans l4.le)⟩
    · refine hb w3 σ' H3 s3 hr' _ fun w4 H4 l4 s4 => ?_
      obtain ⟨i1, i2, i3⟩ := l4.out j1 j2 j3
      rw [if_pos rfl, hf]
      refine he w4 σ' H4 s4 (hr'.go l4) _ fun w5 H5 z l5 s5 rz => ?_
      obtain ⟨n1, n2, n3⟩ := l5.out i1 i2 i3
      have hys : ys.length ≤ items.length := by
        rw [rys.length]
        have : ∀ n, n ≤ items.length → ((List.range n).map f).flatten.length ≤ n := by
          intro n
          induction n with
          | zero => simp
          | succ n ih =>
            intro hn
            rw [range_flat, List.length_append]
            have h1 : (f n).length ≤ 1 := by
              obtain ⟨_, _, hb⟩ := ht n items[n] (List.getElem?_eq_getElem hn)
              rcases hb with ⟨_, hf⟩ | ⟨_, _, _, _, hf⟩
              · rw [hf]; simp
              · rw [hf]; simp
            have := ih (by omega)
            omega
        exact Nat.le_trans (this i hle) hle
      refine ⟨ys, n3, Nat.lt_of_le_of_lt (Nat.le_trans hys hsz) (by decide), w5, ys ++ [z], (((l2.trans l3).trans l4).trans l5).junk hD, s5.junk n1 n2, n1, n2, upd_same, ?_⟩
      exact (rys.mono (l3.le.trans (l4.le.trans l5.le))).append (reps_cons' rz reps_nil')
  · have hi' : i = items.length := by omega
    subst hi'
    refine .inl ⟨(hJ _ w2 H2 _ l2.le s2 (hpm _ hle)).1 (Nat.le_refl _), ?_⟩
    exact q w2 H2 Dl ys (l1.trans l2) s2 k1 k2 hHD k3 rys
theorem pe_lcC (hc : C.calm = true) (hN : C.N.Nodup) (ok : ∀ p, BlkOk C.N (C.env p).scope scope own) (hf : ∀ p, ∀ x, foldedSetIterable e (C.env p) x = pure x) (X : Cx) (hX : C.Has X) :
    PE X (.ListComp elt [⟨tg, e, ifs, 0⟩] scope pos) (tLc (wI C tg e) (wG (C.blk scope) tg) (wTs (C.blk scope) ifs) (wE (C.blk scope) elt) (ownIx own)) := by
  have hb := fun s H c cl fp => hX.blk scope s H c cl fp
  cases hX with | mk p s0 H0 outer stack ex pn xe hpn =>
    exact pe_lc hc hN (pi_w (.mk p s0 H0 outer stack ex pn xe hpn)) (ok p) (fun s H c cl fp => pg_w (hb s H c cl fp)) (fun s H c cl fp => pts_w (hb s H c cl fp)) (fun s H c cl fp => pe_w (hb s H c cl fp)) (hf p)
/-- [elt for tg in e if ..], f: what each turn adds -/
theorem ed_lc0 (hc : C.calm = true) (hN : C.N.Nodup) (ok : ∀ p, BlkOk C.N (C.env p).scope scope own) (hi : ID C S M tg e items PM M1) (f : Nat → List D) (hpm : PM M1) (hsz : items.length ≤ 100000)
    (ht : ∀ i d, items[i]? = some d → LcTurn C scope (ownIx own) S tg elt ifs d (f i) M1 M1) (hf : ∀ p, ∀ x, foldedSetIterable e (C.env p) x = pure x := by intro _ _; rfl) :
    ED C S M (.ListComp elt [⟨tg, e, ifs, 0⟩] scope pos) (.lst ((List.range items.length).map f).flatten) M1 :=
  ED.of (pe_lcC hc hN ok hf) fun w σ H hsat hr Q q => lc_read hi f (fun _ => M1) rfl (fun _ _ => hpm) hsz ht w σ H hsat hr Q fun w' H' p ys l s h1 h2 h3 h4 r =>
    q _ H' _ (l.fzn h2 h3) (s.fzn h1 h2 h4) (rep_lst.mpr ⟨p, ys, rfl, SqL.of upd_same, r.mono (Wd.le_put h2)⟩)
/-- .. the list may be changed later -/
theorem SatM.ownR {K : PySem.W.Frag} {w : Wd} {H : Hp} {M : Mem} {p : Addr} {o : HO} {mo : MO} (s : SatM K w H M) (h1 : p ∉ w.ρ) (h2 : w.F p = none) (h3 : H p = some o) (hm : MRep K w mo o) : SatM K (w.add p) H (M ++ [mo]) := by
  refine ⟨s.same, by simp [s.len], ?_, fun n q mo' e1 e2 => ?_⟩
  · refine List.nodup_append.mpr ⟨s.nd, by simp, fun a ha b hb => ?_⟩
    have : b = p := by simpa using hb
    subst this
    exact fun e => h1 (e ▸ ha)
  · by_cases hn : n < M.length
    · rw [List.getElem?_append_left hn] at e2
      have e1' : w.ρ[n]? = some q := by
        have : (w.ρ ++ [p])[n]? = some q := e1
        rwa [List.getElem?_append_left (by rw [s.len]; exact hn)] at this
      obtain ⟨f, o', e3, r⟩ := s.at_ n q mo' e1' e2
      exact ⟨f, o', e3, r.mono Wd.le_add⟩
    · have hn' : n = M.length := by
        have := (List.getElem?_eq_some_iff.mp e2).1
        simp at this; omega
      subst hn'
      have e1' : (w.ρ ++ [p])[M.length]? = some q := e1
      rw [← s.len, List.getElem?_append_right (Nat.le_refl _)] at e1'
      simp at e1' e2
      subst e1' e2
      exact ⟨h2, o, h3, hm.mono Wd.le_add⟩
theorem Go.ownR {w w' : Wd} {H H' : Hp} {p : Addr} (g : Go w H w' H') (hp : H p = none) : Go w H (w'.add p) H' :=
  ⟨g.le.trans Wd.le_add, g.keep, fun a m => by
    rcases List.mem_append.mp m with q | q
    · exact g.newR a q
    · have : a = p := by simpa using q
      subst this
      exact .inr hp, g.newF⟩
theorem ed_lcR0 (hc : C.calm = true) (hN : C.N.Nodup) (ok : ∀ p, BlkOk C.N (C.env p).scope scope own) (hi : ID C S M tg e items PM M1) (f : Nat → List D) (Ms : Nat → Mem) (h0 : Ms 0 = M1) (hpm : ∀ i, i ≤ items.length → PM (Ms i)) (hsz : items.length ≤ 100000)
    (ht : ∀ i d, items[i]? = some d → LcTurn C scope (ownIx own) S tg elt ifs d (f i) (Ms i) (Ms (i + 1))) (hf : ∀ p, ∀ x, foldedSetIterable e (C.env p) x = pure x := by intro _ _; rfl) :
    ED C S M (.ListComp elt [⟨tg, e, ifs, 0⟩] scope pos) (.res (Ms items.length).length) (Ms items.length ++ [.lst ((List.range items.length).map f).flatten]) :=
  ED.of (pe_lcC hc hN ok hf) fun w σ H hsat hr Q q => lc_read hi f Ms h0 hpm hsz ht w σ H hsat hr Q fun w' H' p ys l s h1 h2 h3 h4 r =>
    q _ H' _ (l.ownR h3) (s.ownR h1 h2 h4 ⟨ys, rfl, r⟩) (rep_res.mpr ⟨p, by
      show (w'.ρ ++ [p])[(Ms items.length).length]? = some p
      rw [← s.len]; simp, rfl⟩)
/-- y = [..] on one line -/
theorem sd_setLc0 {y : Str} {py spos : Pos} (j : Nat) (hc : C.calm = true) (hN : C.N.Nodup) (ok : ∀ p, BlkOk C.N (C.env p).scope scope own) (hi : ID C S M tg e items PM M1) (f : Nat → List D) (hpm : PM M1) (hsz : items.length ≤ 100000)
    (ht : ∀ i d, items[i]? = some d → LcTurn C scope (ownIx own) S tg elt ifs d (f i) M1 M1) (hy : C.N[j]? = some y := by rfl) (hyl : ∀ p, (C.env p).scope.names.lookup y = some .local := by intro _; rfl)
    (hsw : ∀ p, swapsWith (.ListComp elt [⟨tg, e, ifs, 0⟩] scope pos) (some (.Name y py)) spos.line (C.env p) = pure true := by intro _; exact sw_true rfl rfl rfl (by decide +kernel)) (hf : ∀ p, ∀ x, foldedSetIterable e (C.env p) x = pure x := by intro _ _; rfl) :
    SD C S M (.Assign [.Name y py] (.ListComp elt [⟨tg, e, ifs, 0⟩] scope pos) spos) (.nx (S.set j (some (.lst ((List.range items.length).map f).flatten))) M1) :=
  SD.of (t := fun _ => tAsg (tLc (wI C tg e) (wG (C.blk scope) tg) (wTs (C.blk scope) ifs) (wE (C.blk scope) elt) (ownIx own)) (gName j)) (fun W X hX ow => by
    have hb := fun s H c cl fp => hX.blk scope s H c cl fp
    cases hX with | mk p s0 H0 outer stack ex pn xe hpn =>
      exact ps_setLc hc hN hy (hyl p) (hsw p) (pi_w (.mk p s0 H0 outer stack ex pn xe hpn)) (ok p) (fun s H c cl fp => pg_w (hb s H c cl fp)) (fun s H c cl fp => pts_w (hb s H c cl fp)) (fun s H c cl fp => pe_w (hb s H c cl fp)) (hf p)) fun W E w σ H hsat hr q =>
    lc_read hi f (fun _ => M1) rfl (fun _ _ => hpm) hsz ht w σ H hsat hr (fun x H1 => gName j x σ H1 E.nx) fun w' H' p ys l s h1 h2 h3 h4 r =>
      q _ H' _ (l.fzn h2 h3) (s.fzn h1 h2 h4) ((hr.go (l.fzn h2 h3)).set (rep_lst.mpr ⟨p, ys, rfl, SqL.of upd_same, r.mono (Wd.le_put h2)⟩))
theorem sd_setLcR0 {y : Str} {py spos : Pos} (j : Nat) (hc : C.calm = true) (hN : C.N.Nodup) (ok : ∀ p, BlkOk C.N (C.env p).scope scope own) (hi : ID C S M tg e items PM M1) (f : Nat → List D) (Ms : Nat → Mem) (h0 : Ms 0 = M1) (hpm : ∀ i, i ≤ items.length → PM (Ms i)) (hsz : items.length ≤ 100000)
    (ht : ∀ i d, items[i]? = some d → LcTurn C scope (ownIx own) S tg elt ifs d (f i) (Ms i) (Ms (i + 1))) (hy : C.N[j]? = some y := by rfl) (hyl : ∀ p, (C.env p).scope.names.lookup y = some .local := by intro _; rfl)
    (hsw : ∀ p, swapsWith (.ListComp elt [⟨tg, e, ifs, 0⟩] scope pos) (some (.Name y py)) spos.line (C.env p) = pure true := by intro _; exact sw_true rfl rfl rfl (by decide +kernel)) (hf : ∀ p, ∀ x, foldedSetIterable e (C.env p) x = pure x := by intro _ _; rfl) :
    SD C S M (.Assign [.Name y py] (.ListComp elt [⟨tg, e, ifs, 0⟩] scope pos) spos) (.nx (S.set j (some (.res (Ms items.length).length))) (Ms items.length ++ [.lst ((List.range items.length).map f).flatten])) :=
  SD.of (t := fun _ => tAsg (tLc (wI C tg e) (wG (C.blk scope) tg) (wTs (C.blk scope) ifs) (wE (C.blk scope) elt) (ownIx own)) (gName j)) (fun W X hX ow => by
    have hb := fun s H c cl fp => hX.blk scope s H c cl fp
    cases hX with | mk p s0 H0 outer stack ex pn xe hpn =>
      exact ps_setLc hc hN hy (hyl p) (hsw p) (pi_w (.mk p s0 H0 outer stack ex pn xe hpn)) (ok p) (fun s H c cl fp => pg_w (hb s H c cl fp)) (fun s H c cl fp => pts_w (hb s H c cl fp)) (fun s H c cl fp => pe_w (hb s H c cl fp)) (hf p)) fun W E w σ H hsat hr q =>
    lc_read hi f Ms h0 hpm hsz ht w σ H hsat hr (fun x H1 => gName j x σ H1 E.nx) fun w' H' p ys l s h1 h2 h3 h4 r =>
      q _ H' _ (l.ownR h3) (s.ownR h1 h2 h4 ⟨ys, rfl, r⟩) ((hr.go (l.ownR h3)).set (rep_res.mpr ⟨p, by
        show (w'.ρ ++ [p])[(Ms items.length).length]? = some p
        rw [← s.len]; simp, rfl⟩))
/-- the result by the items -/
theorem lc_out {α : Type} {xs : List α} {enc : α → D} {p : α → Bool} {g : α → D} (hit : items = xs.map enc) : ((List.range items.length).map fun i => match xs[i]? with | some x => if p x then [g x] else [] | none => []).flatten = (xs.filter p).map g := by
  subst hit
  rw [List.length_map]
  have key : ∀ n, n ≤ xs.length → ((List.range n).map fun i => match xs[i]? with | some x => if p x then [g x] else [] | none => []).flatten = ((xs.take n).filter p).map g := by
    intro n
    induction n with
    | zero => intro _; rfl
    | succ n ih =>
      intro h
      rw [range_flat, ih (by omega), List.take_succ, List.getElem?_eq_getElem (by omega : n < xs.length), List.filter_append, List.map_append]
      congr 1
      simp [List.filter_cons]
      split <;> simp_all
  rw [key _ (Nat.le_refl _), List.take_length]
end
end DL
set_option maxHeartbeats 2000000
namespace DL
open PySem PySem.Spec PyProof.Rows L2

section
variable {C : Ctx} {S S' S1 : DS} {M M1 M2 M' : Mem} {tg a b e elt : Expr} {es ifs : List Expr} {items ds ds2 : List D} {d da db : D} {pos p2 : Pos} {PM : Mem → Prop} {scope : Scope} {own : List (Str × Nat)} {k : Bool}
/-! ### comprehensions by their items -/
theorem ed_lc {α : Type} (xs : List α) (enc : α → D) (p : α → Bool) (g : α → D) (hc : C.calm = true) (hN : C.N.Nodup) (ok : ∀ p, BlkOk C.N (C.env p).scope scope own) (hi : ID C S M tg e (xs.map enc) PM M1) (hpm : PM M1) (hsz : xs.length ≤ 100000)
    (ht : ∀ x, x ∈ xs → ∃ S1, GD (C.blk scope) (wipeD S (ownIx own)) tg (enc x) S1 (ownIx own) ∧ TsD (C.blk scope) S1 M1 ifs (p x) M1 ∧ (p x = true → ED (C.blk scope) S1 M1 elt (g x) M1)) (hf : ∀ p, ∀ x, foldedSetIterable e (C.env p) x = pure x := by intro _ _; rfl) :
    ED C S M (.ListComp elt [⟨tg, e, ifs, 0⟩] scope pos) (.lst ((xs.filter p).map g)) M1 := by
  rw [← lc_out (items := xs.map enc) (xs := xs) (enc := enc) (p := p) (g := g) rfl]
  refine ed_lc0 hc hN ok hi _ hpm (by simpa using hsz) (fun i d hd => ?_) hf
  rw [List.getElem?_map] at hd
  cases hx : xs[i]? with
  | none => rw [hx] at hd; cases hd
  | some x =>
    rw [hx] at hd
    cases hd
    obtain ⟨S1, hg, hb, he⟩ := ht x (List.mem_of_getElem? hx)
    refine ⟨S1, hg, ?_⟩
    cases hp : p x with
    | false => rw [hp] at hb; exact .inl ⟨hb, by simp [hp]⟩
    | true => rw [hp] at hb; exact .inr ⟨g x, M1, hb, he hp, by simp [hp]⟩
theorem ed_lcm {α : Type} (xs : List α) (enc : α → D) (g : α → D) (hc : C.calm = true) (hN : C.N.Nodup) (ok : ∀ p, BlkOk C.N (C.env p).scope scope own) (hi : ID C S M tg e (xs.map enc) PM M1) (hpm : PM M1) (hsz : xs.length ≤ 100000)
    (ht : ∀ x, x ∈ xs → ∃ S1, GD (C.blk scope) (wipeD S (ownIx own)) tg (enc x) S1 (ownIx own) ∧ ED (C.blk scope) S1 M1 elt (g x) M1) (hf : ∀ p, ∀ x, foldedSetIterable e (C.env p) x = pure x := by intro _ _; rfl) :
    ED C S M (.ListComp elt [⟨tg, e, [], 0⟩] scope pos) (.lst (xs.map g)) M1 := by
  have h := ed_lc (pos := pos) (ifs := []) xs enc (fun _ => true) g hc hN ok hi hpm hsz (fun x hx => by
    obtain ⟨S1, hg, he⟩ := ht x hx
    exact ⟨S1, hg, tsd_nil, fun _ => he⟩) hf
  rwa [List.filter_eq_self.mpr (fun _ _ => rfl)] at h
theorem sd_setLc {α : Type} {y : Str} {py spos : Pos} (j : Nat) (xs : List α) (enc : α → D) (p : α → Bool) (g : α → D) (hc : C.calm = true) (hN : C.N.Nodup) (ok : ∀ p, BlkOk C.N (C.env p).scope scope own) (hi : ID C S M tg e (xs.map enc) PM M1) (hpm : PM M1) (hsz : xs.length ≤ 100000)
    (ht : ∀ x, x ∈ xs → ∃ S1, GD (C.blk scope) (wipeD S (ownIx own)) tg (enc x) S1 (ownIx own) ∧ TsD (C.blk scope) S1 M1 ifs (p x) M1 ∧ (p x = true → ED (C.blk scope) S1 M1 elt (g x) M1)) (hy : C.N[j]? = some y := by rfl) (hyl : ∀ p, (C.env p).scope.names.lookup y = some .local := by intro _; rfl)
    (hsw : ∀ p, swapsWith (.ListComp elt [⟨tg, e, ifs, 0⟩] scope pos) (some (.Name y py)) spos.line (C.env p) = pure true := by intro _; exact sw_true rfl rfl rfl (by decide +kernel)) (hf : ∀ p, ∀ x, foldedSetIterable e (C.env p) x = pure x := by intro _ _; rfl) :
    SD C S M (.Assign [.Name y py] (.ListComp elt [⟨tg, e, ifs, 0⟩] scope pos) spos) (.nx (S.set j (some (.lst ((xs.filter p).map g)))) M1) := by
  rw [← lc_out (items := xs.map enc) (xs := xs) (enc := enc) (p := p) (g := g) rfl]
  refine sd_setLc0 j hc hN ok hi _ hpm (by simpa using hsz) (fun i d hd => ?_) hy hyl hsw hf
  rw [List.getElem?_map] at hd
  cases hx : xs[i]? with
  | none => rw [hx] at hd; cases hd
  | some x =>
    rw [hx] at hd
    cases hd
    obtain ⟨S1, hg, hb, he⟩ := ht x (List.mem_of_getElem? hx)
    refine ⟨S1, hg, ?_⟩
    cases hp : p x with
    | false => rw [hp] at hb; exact .inl ⟨hb, by simp [hp]⟩
    | true => rw [hp] at hb; exact .inr ⟨g x, M1, hb, he hp, by simp [hp]⟩
theorem sd_setLcm {α : Type} {y : Str} {py spos : Pos} (j : Nat) (xs : List α) (enc : α → D) (g : α → D) (hc : C.calm = true) (hN : C.N.Nodup) (ok : ∀ p, BlkOk C.N (C.env p).scope scope own) (hi : ID C S M tg e (xs.map enc) PM M1) (hpm : PM M1) (hsz : xs.length ≤ 100000)
    (ht : ∀ x, x ∈ xs → ∃ S1, GD (C.blk scope) (wipeD S (ownIx own)) tg (enc x) S1 (ownIx own) ∧ ED (C.blk scope) S1 M1 elt (g x) M1) (hy : C.N[j]? = some y := by rfl) (hyl : ∀ p, (C.env p).scope.names.lookup y = some .local := by intro _; rfl)
    (hsw : ∀ p, swapsWith (.ListComp elt [⟨tg, e, [], 0⟩] scope pos) (some (.Name y py)) spos.line (C.env p) = pure true := by intro _; exact sw_true rfl rfl rfl (by decide +kernel)) (hf : ∀ p, ∀ x, foldedSetIterable e (C.env p) x = pure x := by intro _ _; rfl) :
    SD C S M (.Assign [.Name y py] (.ListComp elt [⟨tg, e, [], 0⟩] scope pos) spos) (.nx (S.set j (some (.lst (xs.map g)))) M1) := by
  have h := sd_setLc (ifs := []) j xs enc (fun _ => true) g hc hN ok hi hpm hsz (fun x hx => by
    obtain ⟨S1, hg, he⟩ := ht x hx
    exact ⟨S1, hg, tsd_nil, fun _ => he⟩) hy hyl hsw hf
  rwa [List.filter_eq_self.mpr (fun _ _ => rfl)] at h
/-- the list may be changed later -/
theorem sd_setLcR {α : Type} {y : Str} {py spos : Pos} (j : Nat) (xs : List α) (enc : α → D) (g : α → D) (hc : C.calm = true) (hN : C.N.Nodup) (ok : ∀ p, BlkOk C.N (C.env p).scope scope own) (hi : ID C S M tg e (xs.map enc) PM M1) (hpm : PM M1) (hsz : xs.length ≤ 100000)
    (ht : ∀ x, x ∈ xs → ∃ S1, GD (C.blk scope) (wipeD S (ownIx own)) tg (enc x) S1 (ownIx own) ∧ ED (C.blk scope) S1 M1 elt (g x) M1) (hy : C.N[j]? = some y := by rfl) (hyl : ∀ p, (C.env p).scope.names.lookup y = some .local := by intro _; rfl)
    (hsw : ∀ p, swapsWith (.ListComp elt [⟨tg, e, [], 0⟩] scope pos) (some (.Name y py)) spos.line (C.env p) = pure true := by intro _; exact sw_true rfl rfl rfl (by decide +kernel)) (hf : ∀ p, ∀ x, foldedSetIterable e (C.env p) x = pure x := by intro _ _; rfl) :
    SD C S M (.Assign [.Name y py] (.ListComp elt [⟨tg, e, [], 0⟩] scope pos) spos) (.nx (S.set j (some (.res M1.length))) (M1 ++ [.lst (xs.map g)])) := by
  have hq : xs.map g = (xs.filter fun _ => true).map g := by rw [List.filter_eq_self.mpr (fun _ _ => rfl)]
  rw [hq, ← lc_out (items := xs.map enc) (xs := xs) (enc := enc) (p := fun _ => true) (g := g) rfl]
  refine sd_setLcR0 j hc hN ok hi _ (fun _ => M1) rfl (fun _ _ => hpm) (by simpa using hsz) (fun i d hd => ?_) hy hyl hsw hf
  rw [List.getElem?_map] at hd
  cases hx : xs[i]? with
  | none => rw [hx] at hd; cases hd
  | some x =>
    rw [hx] at hd
    cases hd
    obtain ⟨S1, hg, he⟩ := ht x (List.mem_of_getElem? hx)
    exact ⟨S1, hg, .inr ⟨g x, M1, tsd_nil, he, by simp⟩⟩

/-! ### lengths and conversions -/
theorem SatM.resL {K : PySem.W.Frag} {w : Wd} {H : Hp} {n : Nat} {y : V} (s : SatM K w H M) (r : Rep K w (.res n) y) (hM : M[n]? = some (.lst ds)) : ∃ p vs, w.ρ[n]? = some p ∧ y = .ref p ∧ H p = some (.lst vs) ∧ Reps K w ds vs := by
  rw [rep_res] at r
  obtain ⟨p, hp, rfl⟩ := r
  obtain ⟨p', o, e1, e2, vs, rfl, r⟩ := s.res hM
  rw [hp] at e1; cases e1
  exact ⟨p, vs, hp, rfl, e2, r⟩
theorem reps_one {K : PySem.W.Frag} {w : Wd} {ys : List V} (r : Reps K w [d] ys) : ∃ y, ys = [y] ∧ Rep K w d y := by
  rw [reps_cons] at r
  obtain ⟨y, yr, rfl, r1, r2⟩ := r
  rw [reps_nil] at r2
  subst r2
  exact ⟨y, rfl, r1⟩
theorem reps_two {K : PySem.W.Frag} {w : Wd} {ys : List V} (r : Reps K w [d, da] ys) : ∃ y z, ys = [y, z] ∧ Rep K w d y ∧ Rep K w da z := by
  rw [reps_cons] at r
  obtain ⟨y, yr, rfl, r1, r2⟩ := r
  obtain ⟨z, rfl, r3⟩ := reps_one r2
  exact ⟨y, z, rfl, r1, r3⟩
abbrev rLenS (K : PySem.W.Frag) : List V → Hp → VK → Prop := fun xs H Q => ∃ p ys, xs = [.ref p] ∧ (SqL K H p ys ∨ SqT K H p ys) ∧ Q (.int ys.length) H
theorem callLen : ∀ X, C.Has X → CallR X (.builtin "len") (rLenS C.K) := fun X hX => by
  have z := call_len_seq (X := X)
  cases hX with | mk p => exact z
theorem rc_len_tup : RC C (rLenS C.K) M [.tup ds] (dInt ds.length) M := fun w H xs hs r Q q => by
  obtain ⟨y, rfl, r1⟩ := reps_one r
  obtain ⟨p, vs, rfl, st, rs⟩ := hs.tupH r1
  exact ⟨p, vs, rfl, .inr st, by rw [rs.length]; exact q w H _ (.refl w) hs rep_v'⟩
theorem rc_len_lst : RC C (rLenS C.K) M [.lst ds] (dInt ds.length) M := fun w H xs hs r Q q => by
  obtain ⟨y, rfl, r1⟩ := reps_one r
  obtain ⟨p, vs, rfl, st, rs⟩ := hs.lstH r1
  exact ⟨p, vs, rfl, .inl st, by rw [rs.length]; exact q w H _ (.refl w) hs rep_v'⟩
theorem rc_len_res {n : Nat} (hM : M[n]? = some (.lst ds)) : RC C (rLenS C.K) M [.res n] (dInt ds.length) M := fun w H xs hs r Q q => by
  obtain ⟨y, rfl, r1⟩ := reps_one r
  obtain ⟨p, vs, _, rfl, e, rs⟩ := hs.resL r1 hM
  exact ⟨p, vs, rfl, .inl (SqL.of e), by rw [rs.length]; exact q w H _ (.refl w) hs rep_v'⟩
abbrev rTupS (K : PySem.W.Frag) : List V → Hp → VK → Prop := fun xs H Q => ∃ p ys, xs = [.ref p] ∧ ((SqL K H p ys ∧ ∀ l, H l = none → Q (.ref l) (upd H l (.tup ys))) ∨ (SqT K H p ys ∧ Q (.ref p) H))
theorem callTup : ∀ X, C.Has X → CallR X (.type "tuple") (rTupS C.K) := fun X hX => by
  have z := call_tuple_of (X := X)
  cases hX with | mk p => exact z
theorem rc_tup_lst : RC C (rTupS C.K) M [.lst ds] (.tup ds) M := fun w H xs hs r Q q => by
  obtain ⟨y, rfl, r1⟩ := reps_one r
  rw [rep_lst] at r1
  obtain ⟨p, vs, rfl, st, rs⟩ := r1
  refine ⟨p, vs, rfl, .inl ⟨same_l hs.same st, fun l hl => ?_⟩⟩
  obtain ⟨g, s4, r4⟩ := hs.put_tup rs hl
  exact q _ _ _ g s4 r4
theorem rc_tup_tup : RC C (rTupS C.K) M [.tup ds] (.tup ds) M := fun w H xs hs r Q q => by
  obtain ⟨y, rfl, r1⟩ := reps_one r
  have r1' := r1
  obtain ⟨p, vs, rfl, st, rs⟩ := hs.tupH r1
  exact ⟨p, vs, rfl, .inr ⟨st, q w H _ (.refl w) hs r1'⟩⟩
theorem rc_tup_res {n : Nat} (hM : M[n]? = some (.lst ds)) : RC C (rTupS C.K) M [.res n] (.tup ds) M := fun w H xs hs r Q q => by
  obtain ⟨y, rfl, r1⟩ := reps_one r
  obtain ⟨p, vs, _, rfl, e, rs⟩ := hs.resL r1 hM
  refine ⟨p, vs, rfl, .inl ⟨SqL.of e, fun l hl => ?_⟩⟩
  obtain ⟨g, s4, r4⟩ := hs.put_tup rs hl
  exact q _ _ _ g s4 r4
abbrev rLstS (K : PySem.W.Frag) : List V → Hp → VK → Prop := fun xs H Q => ∃ p ys, xs = [.ref p] ∧ (SqL K H p ys ∨ SqT K H p ys) ∧ ∀ l, H l = none → Q (.ref l) (upd H l (.lst ys))
theorem callLst : ∀ X, C.Has X → CallR X (.type "list") (rLstS C.K) := fun X hX => by
  have z := call_list_of (X := X)
  cases hX with | mk p => exact z
theorem rc_lst_lst : RC C (rLstS C.K) M [.lst ds] (.lst ds) M := fun w H xs hs r Q q => by
  obtain ⟨y, rfl, r1⟩ := reps_one r
  obtain ⟨p, vs, rfl, st, rs⟩ := hs.lstH r1
  refine ⟨p, vs, rfl, .inl st, fun l hl => ?_⟩
  obtain ⟨g, s4, r4⟩ := hs.put_lst rs hl
  exact q _ _ _ g s4 r4
theorem rc_lst_tup : RC C (rLstS C.K) M [.tup ds] (.lst ds) M := fun w H xs hs r Q q => by
  obtain ⟨y, rfl, r1⟩ := reps_one r
  obtain ⟨p, vs, rfl, st, rs⟩ := hs.tupH r1
  refine ⟨p, vs, rfl, .inr st, fun l hl => ?_⟩
  obtain ⟨g, s4, r4⟩ := hs.put_lst rs hl
  exact q _ _ _ g s4 r4
theorem rc_lst_res {n : Nat} (hM : M[n]? = some (.lst ds)) : RC C (rLstS C.K) M [.res n] (.lst ds) M := fun w H xs hs r Q q => by
  obtain ⟨y, rfl, r1⟩ := reps_one r
  obtain ⟨p, vs, _, rfl, e, rs⟩ := hs.resL r1 hM
  refine ⟨p, vs, rfl, .inl (SqL.of e), fun l hl => ?_⟩
  obtain ⟨g, s4, r4⟩ := hs.put_lst rs hl
  exact q _ _ _ g s4 r4
/-- list(x), to be changed later -/
theorem rc_lstR_lst : RC C (rLstS C.K) M [.lst ds] (.res M.length) (M ++ [.lst ds]) := fun w H xs hs r Q q => by
  obtain ⟨y, rfl, r1⟩ := reps_one r
  obtain ⟨p, vs, rfl, st, rs⟩ := hs.lstH r1
  refine ⟨p, vs, rfl, .inl st, fun l hl => ?_⟩
  obtain ⟨g, s4, r4⟩ := hs.put_res (mo := .lst ds) (o := .lst vs) ⟨vs, rfl, rs⟩ hl
  exact q _ _ _ g s4 r4
section
variable (hm : C.mg "len" = none) (hg : ∀ p, (C.env p).kindOf "len" = some .globalImplicit) (he : ∀ p, starEach [e] (C.env p) = [(false, eval e (C.env p))])
end
theorem ed_len_tup (h : ED C S M e (.tup ds) M1) (hm : C.mg "len" = none) (hg : ∀ p, (C.env p).kindOf "len" = some .globalImplicit := by intro _; rfl) (he : ∀ p, starEach [e] (C.env p) = (false, eval e (C.env p)) :: starEach [] (C.env p) := by intro _; rfl) :
    ED C S M (.Call (.Name "len" p2) [e] [] pos) (dInt ds.length) M1 := ed_callB callLen (ad_cons h ad_nil he) rc_len_tup hm boot_len hg (by decide) (by decide) he
theorem ed_len_lst (h : ED C S M e (.lst ds) M1) (hm : C.mg "len" = none) (hg : ∀ p, (C.env p).kindOf "len" = some .globalImplicit := by intro _; rfl) (he : ∀ p, starEach [e] (C.env p) = (false, eval e (C.env p)) :: starEach [] (C.env p) := by intro _; rfl) :
    ED C S M (.Call (.Name "len" p2) [e] [] pos) (dInt ds.length) M1 := ed_callB callLen (ad_cons h ad_nil he) rc_len_lst hm boot_len hg (by decide) (by decide) he
theorem ed_len_res {n : Nat} (h : ED C S M e (.res n) M1) (hM : M1[n]? = some (.lst ds)) (hm : C.mg "len" = none) (hg : ∀ p, (C.env p).kindOf "len" = some .globalImplicit := by intro _; rfl) (he : ∀ p, starEach [e] (C.env p) = (false, eval e (C.env p)) :: starEach [] (C.env p) := by intro _; rfl) :
    ED C S M (.Call (.Name "len" p2) [e] [] pos) (dInt ds.length) M1 := ed_callB callLen (ad_cons h ad_nil he) (rc_len_res hM) hm boot_len hg (by decide) (by decide) he
theorem ed_tupleL (h : ED C S M e (.lst ds) M1) (hm : C.mg "tuple" = none) (hg : ∀ p, (C.env p).kindOf "tuple" = some .globalImplicit := by intro _; rfl) (he : ∀ p, starEach [e] (C.env p) = (false, eval e (C.env p)) :: starEach [] (C.env p) := by intro _; rfl) :
    ED C S M (.Call (.Name "tuple" p2) [e] [] pos) (.tup ds) M1 := ed_callTy callTup (ad_cons h ad_nil he) rc_tup_lst hm boot_tuple hg (by decide) (by decide) he
theorem ed_tupleR {n : Nat} (h : ED C S M e (.res n) M1) (hM : M1[n]? = some (.lst ds)) (hm : C.mg "tuple" = none) (hg : ∀ p, (C.env p).kindOf "tuple" = some .globalImplicit := by intro _; rfl) (he : ∀ p, starEach [e] (C.env p) = (false, eval e (C.env p)) :: starEach [] (C.env p) := by intro _; rfl) :
    ED C S M (.Call (.Name "tuple" p2) [e] [] pos) (.tup ds) M1 := ed_callTy callTup (ad_cons h ad_nil he) (rc_tup_res hM) hm boot_tuple hg (by decide) (by decide) he
theorem ed_listL (h : ED C S M e (.lst ds) M1) (hm : C.mg "list" = none) (hg : ∀ p, (C.env p).kindOf "list" = some .globalImplicit := by intro _; rfl) (he : ∀ p, starEach [e] (C.env p) = (false, eval e (C.env p)) :: starEach [] (C.env p) := by intro _; rfl) :
    ED C S M (.Call (.Name "list" p2) [e] [] pos) (.lst ds) M1 := ed_callTy callLst (ad_cons h ad_nil he) rc_lst_lst hm boot_list hg (by decide) (by decide) he
theorem ed_listT (h : ED C S M e (.tup ds) M1) (hm : C.mg "list" = none) (hg : ∀ p, (C.env p).kindOf "list" = some .globalImplicit := by intro _; rfl) (he : ∀ p, starEach [e] (C.env p) = (false, eval e (C.env p)) :: starEach [] (C.env p) := by intro _; rfl) :
    ED C S M (.Call (.Name "list" p2) [e] [] pos) (.lst ds) M1 := ed_callTy callLst (ad_cons h ad_nil he) rc_lst_tup hm boot_list hg (by decide) (by decide) he
/-! ### max, all -/
theorem ed_max2 {i j : Int} (h : AD C S M [a, b] [dInt i, dInt j] M1) (hc : C.calm = true) (hm : C.mg "max" = none) (hg : ∀ p, (C.env p).kindOf "max" = some .globalImplicit := by intro _; rfl) (he : ∀ p, starEach [a, b] (C.env p) = (false, eval a (C.env p)) :: starEach [b] (C.env p) := by intro _; rfl)
    (hpl : ∀ p, (backTo pos (starEach [b] (C.env p))).any (·.1) = false := by intro _; rfl) : ED C S M (.Call (.Name "max" p2) [a, b] [] pos) (dInt (max i j)) M1 :=
  ed_callB (fun X hX => by
    have z : X.calm = true → _ := call_max2 (X := X)
    cases hX with | mk p => exact z hc) h (fun w H xs hs r Q q => by
      rw [show [dInt i, dInt j] = [V.int i, V.int j].map D.v from rfl, reps_vs] at r
      refine ⟨i, j, r, q w H _ (.refl w) hs ?_⟩
      have e : (if j > i then j else i) = max i j := by
        rw [Int.max_def]
        split <;> split <;> omega
      rw [e]
      exact rep_v') hm boot_max hg (by decide) (by decide) he hpl
theorem ed_all {bs : List Bool} (h : ED C S M e (.lst (bs.map fun b => .v (.bl b))) M1) (hc : C.calm = true) (hm : C.mg "all" = none) (hg : ∀ p, (C.env p).kindOf "all" = some .globalImplicit := by intro _; rfl) (he : ∀ p, starEach [e] (C.env p) = (false, eval e (C.env p)) :: starEach [] (C.env p) := by intro _; rfl) :
    ED C S M (.Call (.Name "all" p2) [e] [] pos) (.v (.bl (bs.all id))) M1 :=
  ed_callB (r := rAll C.K) (fun X hX => by
    have z : X.calm = true → CallR X (.builtin "all") (rAll X.K) := cr_all (X := X)
    cases hX with | mk p => exact z hc) (ad_cons h ad_nil he) (fun w H xs hs r Q q => by
      obtain ⟨y, rfl, r1⟩ := reps_one r
      obtain ⟨p, vs, rfl, st, rs⟩ := hs.lstH r1
      have e2 : (bs.map fun b => D.v (.bl b)) = (bs.map V.bl).map D.v := by rw [List.map_map]; rfl
      rw [e2, reps_vs] at rs
      subst rs
      exact ⟨p, bs, rfl, st, q w H _ (.refl w) hs rep_v'⟩) hm boot_all hg (by decide) (by decide) he
/-! ### isinstance -/
def tyN : D → String
  | .v .non => "NoneType"
  | .v (.bl _) => "bool"
  | .v (.int _) => "int"
  | .v (.str _) => "str"
  | .tup _ => "tuple"
  | .lst _ => "list"
  | _ => ""
theorem sqT_ty {K : PySem.W.Frag} {H : Hp} {p : Addr} {vs : List V} (h : SqT K H p vs) : TyX K H (.ref p) (.type "tuple") := by
  rcases h with (h | ⟨o, h⟩) | ⟨o, its, n, hk, hc, _⟩
  · exact .base (.tup h)
  · exact .fTuple h
  · exact .kTuple hk hc
theorem sqL_ty {K : PySem.W.Frag} {H : Hp} {p : Addr} {vs : List V} (h : SqL K H p vs) : TyX K H (.ref p) (.type "list") := by
  rcases h with (h | ⟨o, h⟩) | ⟨o, its, n, hk, hc, _⟩
  · exact .base (.lst h)
  · exact .base (.frz h)
  · exact .kList hk hc
theorem rep_ty {K : PySem.W.Frag} {w : Wd} {H : Hp} {y : V} (s : SatM K w H M) (r : Rep K w d y) (h : tyN d ≠ "") : TyX K H y (.type (tyN d)) := by
  cases d with
  | v x =>
    rw [rep_v] at r
    subst r
    cases y with
    | non => exact .base .non
    | bl b => exact .base (.bl b)
    | int i => exact .base (.int i)
    | str x => exact .base (.str x)
    | byt _ => exact absurd rfl h
    | flt _ => exact absurd rfl h
    | ref _ => exact absurd rfl h
    | ty _ => exact absurd rfl h
  | tup ds =>
    obtain ⟨p, vs, rfl, st, _⟩ := s.tupH r
    exact sqT_ty st
  | lst ds =>
    obtain ⟨p, vs, rfl, st, _⟩ := s.lstH r
    exact sqL_ty st
  | res n => exact absurd rfl h
theorem ed_isinst {T : String} (t : String) (k : Bool) (h : AD C S M [a, b] [d, .v (.ty T)] M1) (hm : C.mg "isinstance" = none) (ht : tyN d = t := by rfl) (hk : kitB t T = some k := by decide +kernel) (hd : t ≠ "" := by decide) (hg : ∀ p, (C.env p).kindOf "isinstance" = some .globalImplicit := by intro _; rfl)
    (he : ∀ p, starEach [a, b] (C.env p) = (false, eval a (C.env p)) :: starEach [b] (C.env p) := by intro _; rfl) (hpl : ∀ p, (backTo pos (starEach [b] (C.env p))).any (·.1) = false := by intro _; rfl) : ED C S M (.Call (.Name "isinstance" p2) [a, b] [] pos) (.v (.bl k)) M1 :=
  ed_callB (r := rIsi C.K) (fun X hX => by
    have z := call_isi (X := X)
    cases hX with | mk p => exact z) h (fun w H xs hs r Q q => by
      obtain ⟨y, z, rfl, r1, r2⟩ := reps_two r
      rw [rep_v] at r2
      subst r2
      subst ht
      exact ⟨y, .ty T, .type (tyN d), .type T, k, rfl, .ty T, rep_ty hs r1 hd, kit_ty hk, q w H _ (.refl w) hs rep_v'⟩) hm boot_isinstance hg (by decide) (by decide) he hpl

/-! ### == of data -/
mutual
def pyd : D → PyData
  | .v (.bl b) => .bool b
  | .v (.int i) => .int i
  | .v (.str x) => .str x
  | .tup ds => .tuple (pyds ds)
  | .lst ds => .list (pyds ds)
  | _ => .none
def pyds : List D → List PyData
  | [] => []
  | d :: ds => pyd d :: pyds ds
end
mutual
def flatD : D → Bool
  | .v .non => true
  | .v (.bl _) => true
  | .v (.int _) => true
  | .v (.str _) => true
  | .v _ => false
  | .tup ds => flatDs ds
  | .lst ds => flatDs ds
  | .res _ => false
def flatDs : List D → Bool
  | [] => true
  | d :: ds => flatD d && flatDs ds
end
mutual
theorem dp_of {K : PySem.W.Frag} {w : Wd} {H : Hp} (s : Same w.F H) : ∀ {d : D} {y : V}, Rep K w d y → flatD d = true → Dp K H y (pyd d)
  | .v x, y, r, f => by
    rw [rep_v] at r
    subst r
    cases y with
    | non => unfold pyd; exact .non
    | bl b => unfold pyd; exact .bl b
    | int i => unfold pyd; exact .int i
    | str x => unfold pyd; exact .str x
    | byt _ => simp [flatD] at f
    | flt _ => simp [flatD] at f
    | ref _ => simp [flatD] at f
    | ty _ => simp [flatD] at f
  | .tup ds, y, r, f => by
    rw [rep_tup] at r
    obtain ⟨p, vs, rfl, st, rs⟩ := r
    unfold pyd
    exact .tup (.of (s _ _ st)) (dps_of s rs (by simpa [flatD] using f))
  | .lst ds, y, r, f => by
    rw [rep_lst] at r
    obtain ⟨p, vs, rfl, st, rs⟩ := r
    unfold pyd
    exact .lst (same_l s st) (dps_of s rs (by simpa [flatD] using f))
  | .res n, y, r, f => by simp [flatD] at f
theorem dps_of {K : PySem.W.Frag} {w : Wd} {H : Hp} (s : Same w.F H) : ∀ {ds : List D} {ys : List V}, Reps K w ds ys → flatDs ds = true → DpAll K H ys (pyds ds)
  | [], ys, r, f => by
    rw [reps_nil] at r
    subst r
    unfold pyds
    exact .nil
  | d :: ds, ys, r, f => by
    rw [reps_cons] at r
    obtain ⟨y, yr, rfl, r1, r2⟩ := r
    unfold pyds
    have f' : flatD d = true ∧ flatDs ds = true := by simpa [flatDs] using f
    exact .cons (dp_of s r1 f'.1) (dps_of s r2 f'.2)
end
theorem rv_eqD (h1 : flatD da = true) (h2 : flatD db = true) (s1 : SeqAt.shaped (pyd da) = true) (s2 : SeqAt.shaped (pyd db) = true) : RV C (rEqD C.K) M da db (.v (.bl (PyData.eqv (pyd da) (pyd db)))) M := fun w H x y hs hx hy Q q =>
  ⟨_, _, dp_of hs.same hx h1, dp_of hs.same hy h2, s1, s2, q w H _ (.refl w) hs rep_v'⟩
theorem rv_neD (h1 : flatD da = true) (h2 : flatD db = true) (s1 : SeqAt.shaped (pyd da) = true) (s2 : SeqAt.shaped (pyd db) = true) : RV C (rNeD C.K) M da db (.v (.bl (!PyData.eqv (pyd da) (pyd db)))) M := fun w H x y hs hx hy Q q =>
  ⟨_, _, dp_of hs.same hx h1, dp_of hs.same hy h2, s1, s2, q w H _ (.refl w) hs rep_v'⟩
/-- data that can be compared, k deep -/
structure CmpOk (d : D) : Prop where
  fl : flatD d = true
  sh : SeqAt.shaped (pyd d) = true
theorem ed_eqD (hA : C.A.units + 64 < cLine) (h1 : ED C S M a da M1) (h2 : ED C S M1 b db M2) (c1 : CmpOk da) (c2 : CmpOk db) : ED C S M (.Compare a [.Eq] [b] pos) (.v (.bl (PyData.eqv (pyd da) (pyd db)))) M2 :=
  ed_cmpR (fun X hX => by
    have z : X.A.units + 64 < cLine → OpR X (compareOp .Eq) (rEqD X.K) := op_eqD
    cases hX with | mk p => exact z hA) h1 h2 (rv_eqD c1.fl c2.fl c1.sh c2.sh) (nomark _)
theorem td_eqD (hA : C.A.units + 64 < cLine) (h1 : ED C S M a da M1) (h2 : ED C S M1 b db M2) (c1 : CmpOk da) (c2 : CmpOk db) : TD C S M (.Compare a [.Eq] [b] pos) (PyData.eqv (pyd da) (pyd db)) M2 :=
  td_cmpR (fun X hX => by
    have z : X.A.units + 64 < cLine → OpR X (compareOp .Eq) (rEqD X.K) := op_eqD
    cases hX with | mk p => exact z hA) h1 h2 (rv_eqD c1.fl c2.fl c1.sh c2.sh) (nomark _)
theorem td_neD (hA : C.A.units + 64 < cLine) (h1 : ED C S M a da M1) (h2 : ED C S M1 b db M2) (c1 : CmpOk da) (c2 : CmpOk db) : TD C S M (.Compare a [.NotEq] [b] pos) (!PyData.eqv (pyd da) (pyd db)) M2 :=
  td_cmpR (fun X hX => by
    have z : X.A.units + 64 < cLine → OpR X (compareOp .NotEq) (rNeD X.K) := op_neD
    cases hX with | mk p => exact z hA) h1 h2 (rv_neD c1.fl c2.fl c1.sh c2.sh) (nomark _)
/-- tuples of ints -/
def intsD (ns : List Int) : List D := ns.map dInt
theorem intsD_flat : ∀ ns : List Int, flatDs (intsD ns) = true
  | [] => by simp [intsD, flatDs]
  | n :: ns => by
    have := intsD_flat ns
    unfold intsD at this ⊢
    simp [flatDs, flatD, dInt, this]
theorem intsD_can : ∀ ns : List Int, PyData.canLayAll0 (pyds (intsD ns)) = true ∧ PyData.depthAll (pyds (intsD ns)) = 0
  | [] => by simp [intsD, pyds, PyData.canLayAll0, PyData.depthAll]
  | n :: ns => by
    obtain ⟨h1, h2⟩ := intsD_can ns
    unfold intsD at h1 h2 ⊢
    simp [pyds, pyd, dInt, PyData.canLayAll0, PyData.canLay0, PyData.depthAll, PyData.depth, h1, h2]
theorem intsD_eqv : ∀ ns ms : List Int, PyData.eqvAll (pyds (intsD ns)) (pyds (intsD ms)) = decide (ns = ms)
  | [], [] => by simp [intsD, pyds, PyData.eqvAll]
  | [], m :: ms => by simp [intsD, pyds, PyData.eqvAll]
  | n :: ns, [] => by simp [intsD, pyds, PyData.eqvAll]
  | n :: ns, m :: ms => by
    have h := intsD_eqv ns ms
    unfold intsD at h ⊢
    simp only [List.map_cons, pyds, pyd, dInt, PyData.eqvAll, PyData.eqv, h]
    by_cases h1 : n = m
    · subst h1; simp
    · simp [h1]
abbrev tupI (ns : List Int) : D := .tup (intsD ns)
theorem tupI_ok (ns : List Int) : CmpOk (tupI ns) := by
  obtain ⟨h1, h2⟩ := intsD_can ns
  refine ⟨by simp [flatD, intsD_flat], ?_⟩
  unfold SeqAt.shaped
  simp [pyd, PyData.canLay0, PyData.depth, h1, h2]
theorem tupI_eqv (ns ms : List Int) : PyData.eqv (pyd (tupI ns)) (pyd (tupI ms)) = decide (ns = ms) := by
  simp only [pyd, PyData.eqv, intsD_eqv]
end
end DL
set_option maxHeartbeats 4000000
namespace L2
open PySem PySem.Spec PyProof.Rows
/-- a tuple times one is that tuple -/
theorem tuple_mul1 (l : Addr) (items : Array Value) (n : Nat) (dd : Option Addr) (sl : Array (Option Value)) (u : Tok) :
    Meets (Builtin.«tuple.__mul__» ⟨[.ref l, .int 1 u], []⟩) (fun _ R s => s.heap.get? l = some { cls := .type "tuple", dict := dd, data := .seq items n, slots := sl } ∧ R (.ok (.ret (Value.ref l))) s) :=
  .of_wp fun prog w A R s h => by
    obtain ⟨hp, g, d, tk, os⟩ := s
    obtain ⟨hl, h⟩ := h
    have f1 := AutoSeq1.idx_int
    wp_walk using wpAny_loadPart' hl
    exact ⟨_, rfl, h⟩
def rRep1 (K : PySem.W.Frag) : R2 := fun x y H Q => ∃ l xs, x = .ref l ∧ y = .int 1 ∧ SqT K H l xs ∧ Q (.ref l) H
theorem op_rep1 {X : Cx} : OpR X (binaryOp .Mult) (rRep1 X.K) := by
  intro pins s σ H x y v u Q I rx ry h
  obtain ⟨l, xs, rfl, rfl, hT, q⟩ := h
  cases rx
  obtain ⟨t, rfl⟩ := ry
  obtain ⟨its, r, ⟨⟨cls, dd, data, sl⟩, ho, hc, n, hd⟩, hs⟩ := I.tuple hT
  simp only at hc hd
  subst hc hd
  exact wpAny_binaryOp_repeat_ref (T := "tuple") (U := "int") (by decide) ⟨_, ho, rfl⟩ (fun s' => typeIs_int s' 1 t) noFill_tuple_mul F.fills_int_mul F.slot_int_rmul repeat_tuple F.slot_int_index.lookup
    (call_meets F.slot_int_rmul (typeIs_int s 1 t) F.entry_int_rmul (F.args_int_rmul_2 _ _) (int_rmul_tuple 1 t l its.toArray n dd sl)
      ⟨ho, rfl, ⟨_, ho, rfl⟩, call_meets F.slot_tuple_mul ⟨_, ho, rfl⟩ F.entry_tuple_mul (F.args_tuple_mul_2 _ _) (tuple_mul1 l its.toArray n dd sl t) ⟨ho, ⟨.ref l, H, I, rfl, q⟩⟩⟩)
/-- xs.count(y) of flat items -/
def rCntV (K : PySem.W.Frag) : V → List V → Hp → VK → Prop := fun x xs H Q => ∃ (p : Addr) (ys : List V) (y : V), x = .ref p ∧ xs = [y] ∧ SqL K H p ys ∧ flatV y = true ∧ ys.all flatV = true ∧ Q (.int ((ys.countP fun z => eqV z y) : Nat)) H
theorem count_eqU {x : V} : ∀ {xs : List V} {us : List Value}, Vals xs us → xs.all flatV = true → us.countP (eqU x) = xs.countP fun y => eqV y x
  | _, _, .nil, _ => rfl
  | y :: xs, u :: us, .cons r t, f => by
    rw [List.all_cons, Bool.and_eq_true] at f
    rw [List.countP_cons, List.countP_cons, eqU_of r f.1, count_eqU t f.2]
theorem mt_countV {X : Cx} : MtR X "list.count" (rCntV X.K) := by
  intro pins s σ H x xs v us Q I rx rxs h
  obtain ⟨p, ys, y, rfl, rfl, hs, fy, fs, q⟩ := h
  cases rx
  obtain ⟨u, rfl, ru⟩ := rxs.one
  obtain ⟨its, rv, ⟨⟨cls, dd, data, sl⟩, n, ho, hc, hdn, hd⟩, hlen⟩ := I.list hs
  simp only at hc hd
  subst hc hd
  refine call_meets PySem.F.slot_list_count ⟨_, ho, rfl⟩ PySem.F.entry_list_count (PySem.F.args_list_count_2 _ _)
    (SeqAt.list_countAt p its.toArray n dd sl u (eqU y)) ⟨ho, fun w hw => mem_eqAt ru fy rv fs w (by simpa using hw), ?_⟩
  refine ⟨.int ((ys.countP fun z => eqV z y) : Nat), H, I.tok _, ⟨s.toks, ?_⟩, q⟩
  show Value.int ((its.toArray.toList.countP (eqU y) : Nat) : Int) s.toks = _
  rw [show its.toArray.toList.countP (eqU y) = its.countP (eqU y) by simp, count_eqU rv fs]
end L2
namespace DL
open PySem PySem.Spec PyProof.Rows L2
section
variable {C : Ctx} {S S' S1 : DS} {M M1 M2 M' : Mem} {tg a b e elt : Expr} {es ifs : List Expr} {items ds ds2 : List D} {d da db : D} {pos p2 : Pos} {PM : Mem → Prop} {scope : Scope} {own : List (Str × Nat)} {k : Bool}
theorem ed_globI {x : Str} {i : Int} {t : Tok} (hm : C.mg x = some (.int i t)) (hg : ∀ p, (C.env p).kindOf x = some .globalImplicit := by intro _; rfl) (hd : (x == ("__debug__" : Str)) = false := by decide) : ED C S M (.Name x pos) (dInt i) M := ed_glob (v := .int i) hm ⟨t, rfl⟩ hg hd
/-! ### (x,) * n -/
theorem ed_tupMul {n : Int} (h1 : ED C S M a (.tup [d]) M1) (h2 : ED C S M1 b (dInt n) M2) (hn : 1 ≤ n) (hn2 : n ≤ 1000) : ED C S M (.BinOp a .Mult b pos) (.tup (List.replicate n.toNat d)) M2 :=
  ed_op (r := fun x y H Q => rRepT C.K x y H Q ∨ rRep1 C.K x y H Q) (fun X hX => by
    have z := (op_repT (X := X)).or op_rep1
    cases hX with | mk p => exact z) h1 h2 fun w H x y hs hx hy Q q => by
      have hx' := hx
      rw [rep_tup] at hx
      obtain ⟨p, vs, rfl, st, rs⟩ := hx
      rw [rep_v] at hy
      subst hy
      obtain ⟨v, rfl, rv⟩ := reps_one rs
      by_cases h1 : n = 1
      · subst h1
        refine .inr ⟨p, [v], rfl, rfl, .of (hs.same _ _ st), q w H _ (.refl w) hs ?_⟩
        exact hx'
      · refine .inl ⟨p, n, [v], rfl, rfl, .of (hs.same _ _ st), by simp, by omega, hn2, by simp, fun l hl => ?_⟩
        have e : (List.replicate n.toNat [v]).flatten = List.replicate n.toNat v := by
          generalize n.toNat = m
          induction m with
          | zero => rfl
          | succ m ih => rw [List.replicate_succ, List.replicate_succ, List.flatten_cons, ih]; rfl
        rw [e]
        have rr : Reps C.K w (List.replicate n.toNat d) (List.replicate n.toNat v) := by
          generalize n.toNat = m
          induction m with
          | zero => exact reps_nil'
          | succ m ih => exact reps_cons' rv ih
        obtain ⟨g, s4, r4⟩ := hs.put_tup rr hl
        exact q _ _ _ g s4 r4
theorem cdiv {i j : Int} (h : 0 < j) (h2 : j < 1073741824) : CDiv i j := ⟨h, h2⟩
theorem intsD_len (a : List Int) : (intsD a).length = a.length := by simp [intsD]
theorem atI_ints {m : List Int} {i : Nat} {x : Int} (h : m[i]? = some x) : atI (intsD m) ((i : Nat) : Int) = some (dInt x) := atI_nat (by unfold intsD; rw [List.getElem?_map, h]; rfl)
theorem zipPair (a b : List Int) : List.zipWith pairD (intsD a) (intsD b) = (a.zip b).map fun p => pairD (dInt p.1) (dInt p.2) := by
  unfold intsD
  rw [List.zipWith_map, List.zip, List.map_zipWith]
theorem id_zipI {C : Ctx} {S : DS} {M M' : Mem} {e e2 : Expr} {pos p2 tpos : Pos} {elts : List Expr} {kk : Nat} {a b : List Int} (h : AD C S M [e, e2] [tupI a, tupI b] M') (hm : C.mg "zip" = none) (hg : ∀ p, (C.env p).kindOf "zip" = some .globalImplicit := by intro _; rfl)
    (hs : ∀ p, starEach [e, e2] (C.env p) = (false, eval e (C.env p)) :: starEach [e2] (C.env p) := by intro _; rfl) (hpl : ∀ p, (backTo pos (starEach [e2] (C.env p))).any (·.1) = false := by intro _; rfl) :
    ID C S M (.Tuple elts kk tpos) (.Call (.Name "zip" p2) [e, e2] [] pos) ((a.zip b).map fun p => pairD (dInt p.1) (dInt p.2)) PAny M' := by
  rw [← zipPair]
  exact id_zipT h hm hg hs hpl
theorem bOk {P : Program} {w : World} {K : PySem.W.Frag} {mg : Str → Option Value} {base : Heap} {N : List Str} {qual : Str} {sc scope : Scope} {A : Around} {own : List (Str × Nat)} (h : blkC N sc scope own = true) :
    ∀ p, BlkOk (fnC P w K mg base N qual sc A).N ((fnC P w K mg base N qual sc A).env p).scope scope own := fun _ => blkOk_by h
/-! ### raise X('..') -/
/-- what the written part says of an own class of errors (no __init__ of its own) -/
structure ErrC (K : PySem.W.Frag) (mg : Str → Option Value) (x : Str) (c : Addr) : Prop where
  g : mg x = some (.ref c)
  x : PySem.W.excIn K c [.type "ValueError", .type "Exception", .type "BaseException", .type "object"] "ValueError.__new__" = true
  k : PySem.W.keepIn K (.ref c) = true
  b : PySem.W.subIn K (.ref c) (.type "BaseException") = some true
  t : PySem.W.typeIn K (.ref c) = some (.type "type")
theorem sd_raise {x m : Str} {j : Nat} {p q pos2 : Pos} {c : Addr} (T : ErrC C.K C.mg x c) (hc : C.calm = true) (hg : ∀ p, (C.env p).kindOf x = some .globalImplicit := by intro _; rfl) (hdb : (x == ("__debug__" : Str)) = false := by decide) :
    SD C S M (.Raise (some (.Call (.Name x p) [.Constant (.str m) j q] [] pos)) none pos2) (.er c S M) :=
  SD.of (t := fun W => fun _ σ H => W (.ref c) none σ H) (fun W X hX ow => by
    have tk := ow.tk
    cases hX with | mk p s0 H0 outer stack ex pn xe hpn =>
      exact ps_raise hc tk (pmk_own (X := ⟨C.prog, C.w, C.K, C.mg, C.base, C.A, C.N, s0, H0, C.env p, outer, stack, ex, C.fn, C.calm, pn, xe⟩) PySem.F.excBase_ValueError T.x T.g T.k (raises_own T.b T.t) (hg p) hdb)) fun W E w σ H hsat hr q => q w H σ (.refl w) hsat hr

/-! ### try .. except X as n -/
/-- the context of the suite: the exception stands at a -/
def Ctx.suite (C : Ctx) (a : Addr) (cls : Value) (d : Option Addr) : Ctx := { C with A := C.A.mark (some (.ref a)), calm := false, pnOk := fun pn xe => xe = (fun _ _ => False) ∧ ∃ oe rest, pn = (a, oe) :: rest ∧ Zc cls d oe ∧ ∃ vs, oe.data = .fields vs }
theorem RepS.clear {K : PySem.W.Frag} {w : Wd} {σ : L2.St} (h : RepS K w S σ) (i : Nat) : RepS K w (S.set i none) (σ.set i none) := by
  refine ⟨by simpa using h.len, fun j d e => ?_⟩
  by_cases hj : i = j
  · subst hj
    by_cases hi : i < S.length
    · rw [List.getElem?_set_self hi] at e; cases e
    · rw [List.getElem?_eq_none (by simpa using hi)] at e; cases e
  · rw [List.getElem?_set_ne hj] at e ⊢
    exact h.get j d e
def Out.clear (i : Nat) : Out → Out
  | .nx S M => .nx (S.set i none) M
  | .bk S M => .bk (S.set i none) M
  | .ct S M => .ct (S.set i none) M
  | o => o
def Out.isEr : Out → Bool
  | .er _ _ _ => true
  | _ => false
theorem sd_try_er {body suite : List Stmt} {b0 : Stmt} {n x : Str} {np pos' : Pos} {i : Nat} {c cx : Addr} {o : Out} (hN : C.N.Nodup) (hpn : ∀ pn xe, C.pnOk pn xe) (hb : SDs C S M body (.er c S1 M1)) (hx : C.mg x = some (.ref cx)) (hm : PySem.W.exmOne C.K (.ref c) (.ref cx) = some true)
    (hs : ∀ a, SDs (C.suite a (.ref c) none) (S1.set i (some (.v (.ref a)))) M1 (b0 :: suite) o) (ho : o.isEr = false) (hi : C.N[i]? = some n := by rfl) (hl : ∀ p, (C.env p).kindOf n = some .local := by intro _; rfl) (hg : ∀ p, (C.env p).kindOf x = some .globalImplicit := by intro _; rfl) (hdb : (x == ("__debug__" : Str)) = false := by decide) :
    SD C S M (.Try body [.ExceptHandler (some (.Name x np)) (some n) (b0 :: suite) pos'] [] [] pos) (o.clear i) := fun W E w σ H hsat hr q => by
  refine ⟨fun D σ H => wSs C (wAs C.K (.ref cx) i (fun a cls d => wSs (C.suite a cls d) (fun _ _ _ _ => False) (b0 :: suite)) W D) body D σ H, fun X hX ow => ?_, ?_⟩
  · have tk := ow.tk
    have hs := ow.hs
    have hf := ow.hf
    cases hX with | mk p s0 H0 outer stack ex pn xe hpn0 =>
      refine ps_try_as (X := ⟨C.prog, C.w, C.K, C.mg, C.base, C.A, C.N, s0, H0, C.env p, outer, stack, ex, C.fn, C.calm, pn, xe⟩) hs hf hN hi (hl p) ⟨hg p, hdb, .inl hx⟩ tk (tb := fun W => wSs C W body) (fun W' pn' xe' tk' po' => ?_) (fun a oe cls d pn' hz hfl => ?_)
      · exact pss_w (Ctx.Has.mk (C := C) p s0 H0 outer stack ex pn' xe' (hpn pn' xe')) ⟨tk', po', hs, hf⟩
      · exact pss_w (Ctx.Has.mk (C := C.suite a cls d) p s0 H0 outer stack ex ((a, oe) :: pn') _ ⟨rfl, oe, pn', rfl, hz, hfl⟩) ⟨takes0, PassesOwn.never, hs, hf⟩
  · refine hb _ E w σ H hsat hr fun w1 H1 σ1 l1 s1 r1 => ⟨true, hm, fun _ a ha => ?_, fun z => nomatch z⟩
    refine hs a _ _ w1 (σ1.set i (some (.ref a))) H1 s1 (r1.set rep_v') ?_
    cases o with
    | nx S2 M2 => exact fun w2 H2 σ2 l2 s2 r2 => q w2 H2 _ (l1.trans l2) s2 (r2.clear i)
    | rt d2 M2 => exact fun w2 H2 y l2 s2 r2 => q w2 H2 y (l1.trans l2) s2 r2
    | bk S2 M2 => exact fun w2 H2 σ2 l2 s2 r2 => q w2 H2 _ (l1.trans l2) s2 (r2.clear i)
    | ct S2 M2 => exact fun w2 H2 σ2 l2 s2 r2 => q w2 H2 _ (l1.trans l2) s2 (r2.clear i)
    | er c2 S2 M2 => cases ho
/-- the body raises nothing -/
theorem sd_try_ok {body : List Stmt} {h0 : ExceptHandler} {hs : List ExceptHandler} {o : Out} (hb : SDs C S M body o) (ho : o.isEr = false) (hpn : ∀ pn xe, C.pnOk pn xe) : SD C S M (.Try body (h0 :: hs) [] [] pos) o := fun W E w σ H hsat hr q => by
  refine ⟨wSs C (fun _ _ _ _ => False) body, fun X hX ow => ?_, hb _ E w σ H hsat hr ?_⟩
  · have hs := ow.hs
    have hf := ow.hf
    cases hX with | mk p s0 H0 outer stack ex pn xe hpn0 =>
      exact ps_try_thru0 (pss_w (Ctx.Has.mk (C := C) p s0 H0 outer stack ex pn _ (hpn pn _)) ⟨takes0, PassesOwn.never, hs, hf⟩)
  · cases o with
    | nx S2 M2 => exact q
    | rt d2 M2 => exact q
    | bk S2 M2 => exact q
    | ct S2 M2 => exact q
    | er c2 S2 M2 => cases ho
/-! ### in the suite -/
variable {cl : Addr} {x0 : Addr}
/-- isinstance(e, X) of the exception that is held -/
theorem ed_isE {cv : V} {cu : Value} (T : ExcC C.K cl) (h : AD (C.suite x0 (.ref cl) none) S M [a, b] [.v (.ref x0), .v cv] M1) (hcv : ∀ u, RelV cv u → u = cu) (hk : PySem.W.kitOne C.K (.ref cl) cu = some k) (hm : C.mg "isinstance" = none)
    (hg : ∀ p, (C.env p).kindOf "isinstance" = some .globalImplicit := by intro _; rfl) (he : ∀ p, starEach [a, b] (C.env p) = (false, eval a (C.env p)) :: starEach [b] (C.env p) := by intro _; rfl) (hpl : ∀ p, (backTo pos (starEach [b] (C.env p))).any (·.1) = false := by intro _; rfl) :
    ED (C.suite x0 (.ref cl) none) S M (.Call (.Name "isinstance" p2) [a, b] [] pos) (.v (.bl k)) M1 :=
  ed_callB (C := C.suite x0 (.ref cl) none) (r := rIsE C.K cl x0) (fun X hX => by
    cases hX with | mk p s0 H0 outer stack ex pn xe hpn =>
      obtain ⟨rfl, oe, rest, rfl, hz, hf⟩ := hpn
      exact call_isE (X := ⟨C.prog, C.w, C.K, C.mg, C.base, C.A, C.N, s0, H0, C.env p, outer, stack, ex, C.fn, C.calm, [], fun _ _ => False⟩) (pn := rest) T hz hf) h (fun w H xs hs r Q q => by
      rw [show [D.v (.ref x0), D.v cv] = [V.ref x0, cv].map D.v from rfl, reps_vs] at r
      exact ⟨cv, cu, k, r, hcv, hk, q w H _ (.refl w) hs rep_v'⟩) hm boot_isinstance hg (by decide) (by decide) he hpl
/-! ### methods of built-in things -/
def RM (C : Ctx) (r : V → List V → Hp → VK → Prop) (M : Mem) (d : D) (ds : List D) (d' : D) (M' : Mem) : Prop := ∀ w H x xs, SatM C.K w H M → Rep C.K w d x → Reps C.K w ds xs → ∀ Q : VK, (∀ w' H' z, Go w H w' H' → SatM C.K w' H' M' → Rep C.K w' d' z → Q z H') → r x xs H Q
/-- a datum's built-in type, for its methods -/
def TyD (C : Ctx) (T : String) (M : Mem) (d : D) : Prop := ∀ w H x, SatM C.K w H M → Rep C.K w d x → tyV C.K T x H
theorem tyD_lst : TyD C "list" M (.lst ds) := fun w H x hs r => by
  obtain ⟨p, vs, rfl, st, _⟩ := hs.lstH r
  exact .inl ⟨rfl, _, st⟩
theorem tyD_res {n : Nat} (hM : M[n]? = some (.lst ds)) : TyD C "list" M (.res n) := fun w H x hs r => by
  obtain ⟨p, vs, _, rfl, e, _⟩ := hs.resL r hM
  exact .inl ⟨rfl, _, SqL.of e⟩
theorem ed_bm {T id : String} {name : Str} {apos : Pos} {r : V → List V → Hp → VK → Prop} (pa : PlainAttrs T) (slot : Slot T name id) (hty : typeOf (.builtin id) = pure (.type "method_descriptor")) (hmt : ∀ X, C.Has X → MtR X id r) (h1 : ED C S M a da M1) (ty : TyD C T M1 da)
    (h2 : AD C S M1 (e :: es) ds M2) (hr : RM C r M2 da ds d M') (hbase : ∀ p, attributeBase a name (C.env p) (eval a (C.env p)) = eval a (C.env p) := by intro _; rfl)
    (hfew : ∀ p, ((backTo pos (starEach (e :: es) (C.env p))).all (fun x => !x.1) && (backToKw pos (keywordEach [] (C.env p))).all (fun x => x.1.isSome)
      && decide ((e :: es).length + ([] : List Keyword).length + (if ([] : List Keyword).isEmpty then 0 else 1) < 30)) = true := by intro _; rfl)
    (hline : (apos.endLine == pos.line) = true := by rfl) (hs : ∀ p, starEach (e :: es) (C.env p) = (false, eval e (C.env p)) :: starEach es (C.env p) := by intro _; rfl) (hpl : ∀ p, (backTo pos (starEach es (C.env p))).any (·.1) = false := by intro _; rfl) :
    ED C S M (.Call (.Attribute a name apos) (e :: es) [] pos) d M' :=
  ED.of (t := tBM C.K T r (wE C a) (wA C (e :: es))) (fun X hX => by
    have z := hmt X hX
    cases hX with | mk p s0 H0 outer stack ex pn xe hpn => exact pe_bm (X := ⟨C.prog, C.w, C.K, C.mg, C.base, C.A, C.N, s0, H0, C.env p, outer, stack, ex, C.fn, C.calm, pn, xe⟩) pa slot hty z (pe_w (.mk p s0 H0 outer stack ex pn xe hpn)) (pa_w (.mk p s0 H0 outer stack ex pn xe hpn)) (hbase p) (hfew p) hline (hs p) (hpl p)) fun w σ H hsat hp Q q =>
    h1 w σ H hsat hp _ fun w1 H1 x l1 s1 r1 => ⟨ty w1 H1 x s1 r1, h2 w1 σ H1 s1 (hp.go l1) _ fun w2 H2 xs l2 s2 r2 => hr w2 H2 x xs s2 (r1.go l2) r2 Q fun w3 H3 z l3 s3 r3 => q w3 H3 z ((l1.trans l2).trans l3) s3 r3⟩
theorem rm_countV {vs : List V} {y : V} (fy : flatV y = true) (fs : vs.all flatV = true) : RM C (rCntV C.K) M (.lst (vs.map D.v)) [.v y] (dInt ((vs.countP fun z => eqV z y) : Nat)) M := fun w H x xs hs r1 r2 Q q => by
  obtain ⟨p, us, rfl, st, rs⟩ := hs.lstH r1
  rw [reps_vs] at rs
  subst rs
  rw [show [D.v y] = [y].map D.v from rfl, reps_vs] at r2
  exact ⟨p, us, y, rfl, r2, st, fy, fs, q w H _ (.refl w) hs rep_v'⟩
theorem ed_countV {vs : List V} {y : V} {apos : Pos} (h1 : ED C S M a (.lst (vs.map D.v)) M1) (h2 : ED C S M1 e (.v y) M2) (fy : flatV y = true) (fs : vs.all flatV = true) (hbase : ∀ p, attributeBase a "count" (C.env p) (eval a (C.env p)) = eval a (C.env p) := by intro _; rfl)
    (hfew : ∀ p, ((backTo pos (starEach [e] (C.env p))).all (fun x => !x.1) && (backToKw pos (keywordEach [] (C.env p))).all (fun x => x.1.isSome)
      && decide ([e].length + ([] : List Keyword).length + (if ([] : List Keyword).isEmpty then 0 else 1) < 30)) = true := by intro _; rfl)
    (hline : (apos.endLine == pos.line) = true := by rfl) (hs : ∀ p, starEach [e] (C.env p) = (false, eval e (C.env p)) :: starEach [] (C.env p) := by intro _; rfl) : ED C S M (.Call (.Attribute a "count" apos) [e] [] pos) (dInt ((vs.countP fun z => eqV z y) : Nat)) M2 :=
  ed_bm PySem.F.plainAttrs_list PySem.F.slot_list_count (by first | exact PySem.F.type_list_count | rfl) (fun X hX => by
    have z := mt_countV (X := X)
    cases hX with | mk p => exact z) h1 tyD_lst (ad_cons h2 ad_nil hs) (rm_countV fy fs) hbase hfew hline hs
end
end DL
set_option maxHeartbeats 2000000
namespace DL
open PySem PySem.Spec PyProof.Rows L2
/-! ### the order of lists of ints -/
theorem lex_asym : ∀ a b : List Int, HT.lexLt a b = true → HT.lexLt b a = false
  | [], [], h => by cases h
  | [], _ :: _, _ => rfl
  | _ :: _, [], h => by cases h
  | x :: xs, y :: ys, h => by
    rw [HT.lexLt_cons] at h ⊢
    by_cases e : x = y
    · subst e
      rw [if_pos rfl] at h ⊢
      exact lex_asym xs ys h
    · rw [if_neg e] at h
      rw [if_neg (fun z => e z.symm)]
      have := of_decide_eq_true h
      exact decide_eq_false (by omega)
theorem lex_tr : ∀ a b c : List Int, HT.lexLt b a = false → HT.lexLt c b = false → HT.lexLt c a = false
  | [], _, [], _, _ => rfl
  | _ :: _, [], _, h, _ => by cases h
  | [], b, _ :: _, _, _ => rfl
  | _ :: _, _ :: _, [], _, h => by cases h
  | x :: xs, y :: ys, z :: zs, h1, h2 => by
    rw [HT.lexLt_cons] at h1 h2 ⊢
    by_cases e1 : y = x
    · subst e1
      rw [if_pos rfl] at h1
      by_cases e2 : z = y
      · subst e2
        rw [if_pos rfl] at h2 ⊢
        exact lex_tr xs ys zs h1 h2
      · rw [if_neg e2] at h2 ⊢
        exact h2
    · rw [if_neg e1] at h1
      have l1 := of_decide_eq_false h1
      by_cases e2 : z = y
      · subst e2
        rw [if_neg e1]
        exact h1
      · rw [if_neg e2] at h2
        have l2 := of_decide_eq_false h2
        rw [if_neg (by omega)]
        exact decide_eq_false (by omega)
theorem lex_anti : ∀ a b : List Int, HT.lexLt a b = false → HT.lexLt b a = false → a = b
  | [], [], _, _ => rfl
  | [], _ :: _, h, _ => by cases h
  | _ :: _, [], _, h => by cases h
  | x :: xs, y :: ys, h1, h2 => by
    rw [HT.lexLt_cons] at h1 h2
    by_cases e : x = y
    · subst e
      rw [if_pos rfl] at h1 h2
      rw [lex_anti xs ys h1 h2]
    · rw [if_neg e] at h1
      rw [if_neg (fun z => e z.symm)] at h2
      have := of_decide_eq_false h1
      have := of_decide_eq_false h2
      omega
theorem swo_lexI (k : Value → List Int) : SrtO.Swo fun v u => HT.lexLt (k v) (k u) := ⟨fun x y h => lex_asym _ _ h, fun x y z h1 h2 => lex_tr _ _ _ h1 h2⟩
/-- by the order -/
def sortI (L : List (List Int)) : List (List Int) := L.mergeSort fun a b => !HT.lexLt b a
abbrev Asc (L : List (List Int)) : Prop := L.Pairwise fun a b => HT.lexLt b a = false
theorem sortI_perm (L : List (List Int)) : (sortI L).Perm L := List.mergeSort_perm _ _
theorem sortI_asc (L : List (List Int)) : Asc (sortI L) := by
  have h := List.pairwise_mergeSort (le := fun a b : List Int => !HT.lexLt b a) (fun a b c h1 h2 => by
    simp only [Bool.not_eq_true'] at h1 h2 ⊢
    exact lex_tr _ _ _ h1 h2) (fun a b => by
    cases h : HT.lexLt b a with
    | false => simp
    | true => rw [lex_asym _ _ h]; simp) L
  exact h.imp fun h => by simpa using h
theorem asc_unique : ∀ {L M : List (List Int)}, Asc L → Asc M → L.Perm M → L = M
  | [], M, _, _, p => (List.nil_perm.mp p).symm
  | a :: L, [], _, _, p => absurd p.length_eq (by simp)
  | a :: L, b :: M, hl, hm, p => by
    have h1 := List.pairwise_cons.mp hl
    have h2 := List.pairwise_cons.mp hm
    have e : a = b := by
      have ha : a ∈ b :: M := p.mem_iff.mp List.mem_cons_self
      have hb : b ∈ a :: L := p.mem_iff.mpr List.mem_cons_self
      rcases List.mem_cons.mp ha with e | ha
      · exact e
      · rcases List.mem_cons.mp hb with e | hb
        · exact e.symm
        · exact lex_anti _ _ (h2.1 a ha) (h1.1 b hb)
    subst e
    rw [asc_unique h1.2 h2.2 (List.perm_cons _ |>.mp p)]
theorem sortI_eq {L M : List (List Int)} (h : Asc M) (p : M.Perm L) : M = sortI L := asc_unique h (sortI_asc L) (p.trans (sortI_perm L).symm)

/-! ### the comparisons of a sort -/
section
variable {prog : Program} {w : World} {A : Around} {E : Value → Shared → Prop} {s : Shared} {Q : Bool → Shared → Prop}
theorem lex_any {b : Bool} {xs ys : List Value} {ns ms : List Int} (i : Nat) (hx : IntsAre xs ns) (hy : IntsAre ys ms) (h : Q (HT.lexLt ns ms) s) : PySem.W.KatLex prog w A b (decide (ns.length < ms.length)) Q (xs.zip ys) i s := by
  induction hx generalizing ys ms i with
  | nil =>
    cases hy with
    | nil => exact PySem.W.kat_nil h
    | cons q u hy => exact PySem.W.kat_nil (by rw [HT.lexLt_nil_cons] at h; simpa using h)
  | @cons p t xs ns hx ih =>
    cases hy with
    | nil => exact PySem.W.kat_nil (by rw [HT.lexLt_cons_nil] at h; simpa using h)
    | @cons q u ys ms hy =>
      have hd : decide ((p :: ns).length < (q :: ms).length) = decide (ns.length < ms.length) := decide_eq_decide.mpr (by simp)
      rw [hd]
      show PySem.W.KatLex prog w A b _ Q ((Value.int p t, Value.int q u) :: xs.zip ys) i s
      rw [HT.lexLt_cons] at h
      refine PySem.W.kat_cons (wpAny_eqBool_int ?_)
      by_cases e : p = q
      · subst e
        rw [if_pos rfl] at h
        rw [beq_self_eq_true]
        refine PySem.W.kat_yes ?_
        exact ih (i + 1) hy h
      · rw [if_neg e] at h
        rw [show (p == q) = false from beq_eq_false_iff_ne.mpr e]
        exact PySem.W.kat_no (TS.oneLt_ints _ h)
/-- tuples of ints, not empty -/
def TupsAre (h : Heap) (k : Value → List Int) (vs : List Value) : Prop := ∀ v, v ∈ vs → TS.TupInts h v (k v) ∧ k v ≠ []
theorem TupsAre.keeps {h h' : Heap} {k : Value → List Int} {vs : List Value} (x : TupsAre h k vs) (q : ∀ b o, h.get? b = some o → o.cls = .type "tuple" → h'.get? b = some o) : TupsAre h' k vs := fun v hv => ⟨(x v hv).1.keeps q, (x v hv).2⟩
theorem tups_firsts {h : Heap} {k : Value → List Int} : ∀ vs : List Value, TupsAre h k vs → ∃ fs, PySem.W.KatTups h vs fs ∧ fs.length = vs.length ∧ ∀ f, f ∈ fs → ∃ n t, f = Value.int n t
  | [], _ => ⟨[], PySem.W.KatTups.nil, rfl, fun f hf => by simp at hf⟩
  | v :: vs, x => by
    obtain ⟨fs, kk, hl, hi⟩ := tups_firsts vs fun u hu => x u (List.mem_cons_of_mem _ hu)
    obtain ⟨⟨a, xs, rfl, ⟨o, ho, hc, n, hdt⟩, i⟩, hn⟩ := x v (List.mem_cons_self ..)
    obtain ⟨y, ys, e⟩ : ∃ y ys, xs.toList = y :: ys := by
      cases q : xs.toList with
      | nil =>
        rw [q] at i
        have l := i.length
        exact absurd (List.eq_nil_of_length_eq_zero l.symm) hn
      | cons y ys => exact ⟨y, ys, rfl⟩
    obtain ⟨m, t, hy⟩ := i.all y (by rw [e]; exact List.mem_cons_self ..)
    refine ⟨y :: fs, PySem.W.KatTups.cons ho hc hdt ?_ kk, by simp [hl], ?_⟩
    · have z := congrArg (fun l : List Value => l[0]?) e
      simpa using z
    · intro f hf
      rcases List.mem_cons.mp hf with rfl | hf
      · exact ⟨m, t, hy⟩
      · exact hi f hf
theorem tups_cmp {vs : List Value} {k : Value → List Int} (hp : TupsAre s.heap k vs) : SrtO.Cmp prog w A s (tuples' true) (fun p => p.1 ∈ vs) (SrtO.lt2 fun v u => HT.lexLt (k v) (k u)) := by
  intro p q hm hm'
  obtain ⟨⟨a, xs, e, ⟨o, ho, hc, n, hd⟩, i⟩, _⟩ := hp _ hm
  obtain ⟨⟨a', xs', e', ⟨o', ho', hc', n', hd'⟩, i'⟩, _⟩ := hp _ hm'
  show wpAny (model prog w) A (keyLt' (tuples' true) p.1 q.1) (fun r s' => s' = s ∧ r = HT.lexLt (k p.1) (k q.1)) (fun _ _ => False) s
  generalize hk : k p.1 = ns at i ⊢
  generalize hk' : k q.1 = ms at i' ⊢
  rw [e, e']
  refine PySem.W.kat_lt ho hd ho' hd' ?_
  have l1 : xs.size = ns.length := by rw [← i.length]; simp
  have l2 : xs'.size = ms.length := by rw [← i'.length]; simp
  rw [l1, l2]
  exact lex_any 0 i i' ⟨rfl, rfl⟩
theorem tups_sortable {a : Addr} {vs : List Value} {k : Value → List Int} (h0 : 0 < vs.length) (hp : TupsAre s.heap k vs) (ha : ∀ o, s.heap.get? a = some o → o.cls ≠ .type "tuple") : SrtO.SortableO prog w A s a vs fun v u => HT.lexLt (k v) (k u) := by
  intro h' keep
  have hp' : TupsAre h' k vs := hp.keeps fun b o e c => keep b o (fun z => by subst z; exact ha o e c) e
  obtain ⟨fs, h1, h2, h3⟩ := tups_firsts vs hp'
  refine ⟨tuples' true, fun Q E hq => ?_, tups_cmp (s := { s with heap := h' }) hp'⟩
  refine PySem.W.kat_kind (T := .type "int") h1 (by omega) (fun f hm => ?_) (by rfl) ?_
  · obtain ⟨x, t, rfl⟩ := h3 f hm
    exact PySem.W.Looks.now
  · have e : (Value.type "int" != Value.type "tuple") = true := by first | decide +kernel | rfl | decide
    rw [e]
    exact hq
end
end DL
namespace L2
open PySem PySem.Spec PyProof.Rows
section
variable {X : Cx} {pins : List (Addr × Obj)} {σ : St} {H : Hp} {s : Shared}
def ascV (K : PySem.W.Frag) (H : Hp) (ys : List V) : Prop := ys.Pairwise fun x y => ∀ n m, TupI K H x n → TupI K H y m → HT.lexLt m n = false
theorem refs_tups (I : Inv X pins σ H s) {xs : List V} {us : List Value} (rv : Vals xs us) (hx : ∀ x ∈ xs, ∃ ns, TupI X.K H x ns ∧ ns ≠ []) : xs = us.map bkV ∧ (∀ u ∈ us, ∃ a, u = Value.ref a) ∧ DL.TupsAre s.heap (TS.intsOf s.heap) us := by
  obtain ⟨e1, e2⟩ := bkV_refs rv fun x m => by
    obtain ⟨ns, ⟨t, e, _⟩, _⟩ := hx x m
    exact ⟨t, e⟩
  refine ⟨e1, e2, fun v hv => ?_⟩
  obtain ⟨t, rfl⟩ := e2 v hv
  have hm : V.ref t ∈ xs := by
    rw [e1]
    exact List.mem_map.mpr ⟨_, hv, rfl⟩
  obtain ⟨ns, ⟨t', e, ht⟩, hn⟩ := hx _ hm
  cases e
  have k := tupI_raw I ht
  rw [k.ints]
  exact ⟨k, hn⟩
theorem asc_back (I : Inv X pins σ H s) {out : List Value} (h2 : SrtO.Srtd (fun v u => HT.lexLt (TS.intsOf s.heap v) (TS.intsOf s.heap u)) out) : ascV X.K H (out.map bkV) := by
  unfold ascV
  rw [List.pairwise_map]
  refine List.Pairwise.imp (fun {u v} huv n m hn hm => ?_) h2
  obtain ⟨t, et, ht⟩ := hn
  obtain ⟨t', et', ht'⟩ := hm
  have eu := bkV_ref et
  have ev := bkV_ref et'
  have i1 : TS.intsOf s.heap u = n := by
    rw [eu]
    exact (tupI_raw I ht).ints
  have i2 : TS.intsOf s.heap v = m := by
    rw [ev]
    exact (tupI_raw I ht').ints
  rw [← i1, ← i2]
  exact huv
/-- sorted(xs), xs a list of tuples of ints, none of them empty -/
def rSortTu (K : PySem.W.Frag) : List V → Hp → VK → Prop := fun vs H Q => ∃ (a : Addr) (xs : List V), vs = [V.ref a] ∧ SqL K H a xs ∧ (∀ x ∈ xs, ∃ ns, TupI K H x ns ∧ ns ≠ []) ∧
  ∀ (ys : List V) (p : Addr), ys.Perm xs → ascV K H ys → H p = none → Q (.ref p) (upd H p (.lst ys))
theorem cr_sortTups : CallR X (.builtin "sorted") (rSortTu X.K) := by
  intro pins s σ H vs us Q I r h
  obtain ⟨a, xs, rfl, hs, hx, q⟩ := h
  obtain ⟨its, rv, hl, hz⟩ := I.list hs
  rw [Vals.ref1 r]
  obtain ⟨e1, e2, e3⟩ := refs_tups I rv hx
  refine SrtO.sorted_ord (DL.swo_lexI (TS.intsOf s.heap)) hl.isList (by rw [← rv.length]; exact hz) (fun h2 h₁ a ha kk => ?_) fun out h2 h1 => ?_
  · refine DL.tups_sortable (s := { s with heap := h₁ }) (by omega) (e3.keeps fun b o e _ => (kk b o e).2) fun o e => ?_
    have e' : some o = some (seqObj "list" its.toArray 0) := e.symm.trans ha
    cases e'
    intro c
    exact absurd (Value.type.inj c) (by decide)
  · obtain ⟨ep, he'⟩ := PyProof.Rows.sortedAll_at s.heap its out.toArray
    have h3 : ∀ u ∈ out, ∃ a, u = Value.ref a := fun u hu => e2 u (h1.perm.mem_iff.mp hu)
    have hp : (out.map bkV).Perm xs := by
      rw [e1]
      exact h1.perm.map bkV
    have hlen : (out.map bkV).length ≤ sizeLine := by
      rw [hp.length_eq]
      exact hz
    exact ⟨.ref _, upd H (s.heap.objs.size + 1) (.lst (out.map bkV)), I.laid (t' := s.toks) (fun _ _ => PyProof.Rows.sortedAll_old) (Nat.le_succ _) ⟨hlen, out, ep, bkV_vals h3, he'⟩, rfl, q _ _ hp (asc_back I h2) (I.hok.fresh (Nat.le_succ _))⟩
end
theorem intTup {K : PySem.W.Frag} {H : Hp} {b : Addr} {n : List Int} (e : H b = some (.tup (n.map V.int))) : TupI K H (.ref b) n := ⟨b, rfl, .of e⟩
section
variable {X : Cx} {pins : List (Addr × Obj)} {σ : St} {H : Hp} {s : Shared}
theorem keys_tups {kvs : List (List Key × V)} {bs : List Addr} (p : IsKeys H kvs bs) : ∀ {kk : List (List Int)}, kvs.map (·.1) = kk.map (·.map Sum.inl) → (∀ k ∈ kk, k ≠ []) → ∀ x ∈ bs.map V.ref, ∃ ns, TupI X.K H x ns ∧ ns ≠ [] := by
  unfold IsKeys at p
  induction p with
  | nil => intro kk _ _ x hx; exact nomatch hx
  | @cons q b qs bs hq t ih =>
    intro kk hk hn x hx
    cases kk with
    | nil => simp at hk
    | cons k kk =>
      simp only [List.map_cons, List.cons.injEq] at hk
      rcases List.mem_cons.mp hx with e | hx
      · subst e
        refine ⟨k, intTup ?_, hn k List.mem_cons_self⟩
        rw [hq, hk.1, List.map_map]
        rfl
      · exact ih hk.2 (fun k hk => hn k (List.mem_cons_of_mem _ hk)) x hx
/-- sorted(d) of a dict whose keys are tuples of ints, none of them empty -/
def rSortDT (K : PySem.W.Frag) : List V → Hp → VK → Prop := fun xs H Q => ∃ (d : Addr) (kvs : List (List Key × V)) (kk : List (List Int)), xs = [V.ref d] ∧ Rd H d (.dT kvs) ∧ kvs.map (·.1) = kk.map (·.map Sum.inl) ∧ (∀ k ∈ kk, k ≠ []) ∧
  ∀ (bs : List Addr) (ys : List V) (p : Addr), IsKeys H kvs bs → ys.Perm (bs.map V.ref) → ascV K H ys → H p = none → Q (.ref p) (upd H p (.lst ys))
theorem call_sortedDT (hcalm : X.calm = true) : CallR X (.builtin "sorted") (rSortDT X.K) := by
  intro pins s σ H xs us Q I r h
  obtain ⟨d, kvs, kk, rfl, hd, hk0, hn0, q⟩ := h
  obtain ⟨u, rfl, rx⟩ := r.one
  cases rx
  obtain ⟨z, hs, ks, pr, o, es, ep, ho, hx, hdt, he, hn⟩ := (show ObjOk X.prog X.w H s.heap d (.dT kvs) from hd.ok I.hok)
  have l1 : es.size = ks.length := size_of_entries he
  have l2 : kvs.length = ks.length := Paired.length pr
  refine Calls.call_function_entry PyProof.Rows.kind_sorted PyProof.Rows.plain_sorted PyProof.Rows.entry_sorted (PyProof.Rows.args_sorted1 _) ?_
  unfold Builtin.«sorted»
  refine wpAny_bind (m := checkCount "sorted" 1 1 _) (wpAny_pure ?_)
  refine wpAny_bind (PySem.W.kdu_collect (A := X.A.in1) (kdl_raw hs hx hdt) (I.ok.hd hcalm) ho (by omega) fun h' tk acc' kp it => ?_)
  have ea : acc'.toList = ks.map fun x => Value.ref x.2.1 := by
    have hl : acc'.toList.length = ks.length := by rw [Array.length_toList, it.1]; exact l1
    apply List.ext_getElem?
    intro j
    rw [List.getElem?_map]
    cases hj : acc'.toList[j]? with
    | none =>
      have h1 := List.getElem?_eq_none_iff.mp hj
      rw [List.getElem?_eq_none (by omega)]
      all_goals rfl
    | some v =>
      obtain ⟨en, hen, hv⟩ := it.2 j v (by rw [← Array.getElem?_toList]; exact hj)
      have qe := entry_at he j
      rw [hen] at qe
      cases hb : ks[j]? with
      | none =>
        rw [hb] at qe
        exact nomatch (show some en = none from qe)
      | some b =>
        rw [hb] at qe
        have e2 : en = entryOfKey (tupleKind (mixKind X.prog X.w)) b := Option.some.inj qe
        rw [hv, e2]
        all_goals rfl
  have eb : acc'.toList = (ks.map fun x => x.2.1).map Value.ref := by rw [ea, List.map_map]; all_goals rfl
  have rv : Vals ((ks.map fun x => x.2.1).map V.ref) acc'.toList := by rw [eb]; exact vals_refs _
  have hz : acc'.toList.length ≤ sizeLine := by rw [eb, List.length_map, List.length_map]; omega
  have I1 : Inv X pins σ H { s with heap := h', toks := tk } := I.kept kp
  refine wpAny_bind (wpAny_newList ?_ hz)
  have hoL : (h'.push (seqObj "list" acc'.toList.toArray 0)).get? h'.objs.size = some (seqObj "list" acc'.toList.toArray 0) := Heap.get?_push_size _ rfl
  show wpAny _ _ _ _ _ { s with heap := h'.push (seqObj "list" acc'.toList.toArray 0), toks := tk }
  obtain ⟨e1, e2, e3⟩ := refs_tups I1 rv (keys_tups (X := X) (isKeys_of pr) hk0 hn0)
  refine wpAny_bind (wpAny_holding (wpAny_call_entry PyProof.Rows.slot_list_sort ⟨_, hoL, rfl⟩ PyProof.Rows.entry_list_sort
    (SrtO.list_sort_ord (s := { s with heap := h'.push (seqObj "list" acc'.toList.toArray 0), toks := tk }) (DL.swo_lexI (TS.intsOf h')) hoL hz (fun h2 => ?_) fun out g2 g1 => ⟨_, rfl, ?_⟩) (PyProof.Rows.args_list_sort _)))
  · refine DL.tups_sortable (by omega) (e3.keeps fun b o e _ => Heap.get?_push_of_some _ e) fun o e => ?_
    have e' : some o = some (seqObj "list" acc'.toList.toArray 0) := e.symm.trans hoL
    cases e'
    intro c
    exact absurd (Value.type.inj c) (by decide)
  · obtain ⟨e', he'⟩ := PyProof.Rows.sortedHeap_at (vs := acc'.toList) (out := out.toArray) hoL
    have h3 : ∀ u ∈ out, ∃ a, u = Value.ref a := fun u hu => e2 u (g1.perm.mem_iff.mp hu)
    have hp : (out.map bkV).Perm ((ks.map fun x => x.2.1).map V.ref) := by
      rw [e1]
      exact g1.perm.map bkV
    have hlen : (out.map bkV).length ≤ sizeLine := by
      rw [hp.length_eq, List.length_map, List.length_map]; omega
    refine wpAny_pure ⟨_, rfl, .ref h'.objs.size, upd H h'.objs.size (.lst (out.map bkV)), I1.laid (t' := tk) (fun b u e => ?_) (Nat.le_refl _) ⟨hlen, out, e', bkV_vals h3, he'⟩, rfl, q _ _ _ (isKeys_of pr) hp (asc_back I1 g2) (I1.hok.fresh (Nat.le_refl _))⟩
    have hb : b ≠ h'.objs.size := Nat.ne_of_lt (Heap.lt_size e)
    rw [PyProof.Rows.sortedHeap_old hb (by rw [size_push']; exact Nat.lt_succ_of_lt (Heap.lt_size e))]
    exact Heap.get?_push_of_some _ e
end
end L2
set_option maxHeartbeats 2000000
namespace L2
open PySem PySem.Spec PyProof.Rows
/-- list + list, as they stand -/
def rCatS (K : PySem.W.Frag) : R2 := fun x y H Q => ∃ l b xs zs, x = .ref l ∧ y = .ref b ∧ SqL K H l xs ∧ SqL K H b zs ∧ xs.length + zs.length ≤ sizeLine ∧ ∀ p, H p = none → Q (.ref p) (upd H p (.lst (xs ++ zs)))
theorem op_catS {X : Cx} : OpR X (binaryOp .Add) (rCatS X.K) := by
  intro pins s σ H x y v u Q I rx ry h
  obtain ⟨l, b, xs, zs, rfl, rfl, hH, hB, hz, q⟩ := h
  cases rx
  cases ry
  obtain ⟨its, r, p1, _⟩ := I.list hH
  obtain ⟨its2, r2, p2, _⟩ := I.list hB
  have e1 := r.length
  have e2 := r2.length
  obtain ⟨⟨cls, dd, data, sl⟩, ho, hc, n, hd⟩ := p1.isList
  obtain ⟨⟨cls2, dd2, data2, sl2⟩, ho2, hc2, n2, hd2⟩ := p2.isList
  simp only at hc hd hc2 hd2
  subst hc hd hc2 hd2
  refine concat_meets ⟨_, ho, rfl⟩ ⟨_, ho2, rfl⟩ noFill_list_add seq_list_add PySem.F.slot_list_add PySem.F.entry_list_add (PySem.F.args_list_add_2 _ _)
    (list_addW l b its.toArray its2.toArray n n2 dd dd2 sl sl2 (by rw [List.size_toArray, List.size_toArray]; omega)) ⟨ho, ho2, ?_⟩
  have ea : its.toArray ++ its2.toArray = (its ++ its2).toArray := by simp
  rw [ea]
  exact ⟨.ref _, _, I.lnew (t' := s.toks) (r.append r2) (by rw [List.length_append]; omega), rfl, q _ I.fresh⟩
end L2
namespace DL
open PySem PySem.Spec PyProof.Rows L2
/-! ### lists, frozen or not -/
def LV (M : Mem) : D → List D → Prop
  | .lst es, ds => es = ds
  | .res n, ds => M[n]? = some (.lst ds)
  | _, _ => False
section
variable {C : Ctx} {S S' S1 : DS} {M M1 M2 M3 M' : Mem} {tg a b e o i value elt : Expr} {es ifs : List Expr} {items ds ds2 : List D} {d d1 d2 da db dv : D} {pos p2 pos' : Pos} {PM : Mem → Prop} {scope : Scope} {own : List (Str × Nat)} {k : Bool} {K : PySem.W.Frag} {w w' : Wd} {H H' : Hp} {y : V}
theorem lvL : LV M (.lst ds) ds := rfl
theorem lvR {n : Nat} (h : M[n]? = some (.lst ds)) : LV M (.res n) ds := h
theorem LV.ext {J : Mem} : ∀ {d : D}, LV M d ds → LV (M ++ J) d ds
  | .lst _, h => h
  | .res n, h => by
    have h' : M[n]? = some (.lst ds) := h
    show (M ++ J)[n]? = _
    rw [List.getElem?_append_left (List.getElem?_eq_some_iff.mp h').1]
    exact h'
  | .v _, h => h.elim
  | .tup _, h => h.elim
theorem SatM.lv (s : SatM K w H M) : ∀ {d : D}, LV M d ds → Rep K w d y → ∃ p vs, y = .ref p ∧ SqL K H p vs ∧ Reps K w ds vs
  | .lst es, h, r => by
    cases (show es = ds from h)
    exact s.lstH r
  | .res n, h, r => by
    obtain ⟨p, vs, _, e, h1, r1⟩ := s.resL r h
    exact ⟨p, vs, e, SqL.of h1, r1⟩
  | .v _, h, _ => h.elim
  | .tup _, h, _ => h.elim
theorem ed_ixV {i : Int} (h1 : ED C S M a d1 M1) (h2 : ED C S M1 b (dInt i) M2) (hv : LV M2 d1 ds) (ha : atI ds i = some d) (hs : PlainIx b := by intro _ _; rfl) : ED C S M (.Subscript a b pos) d M2 :=
  ED.of (t := tOp (rIxL C.K) (wE C a) (wE C b)) (fun X hX => by
    have z : PE X (.Subscript a b pos) (tOp (rIxL X.K) (wE C a) (wE C b)) := pe_ix ix_list (pe_w hX) (pe_w hX) hs
    cases hX with | mk p => exact z) (op_read rfl rfl h1 h2 fun w H x y hs hx hy Q q => by
      obtain ⟨p, vs, rfl, st, r⟩ := hs.lv hv hx
      rw [rep_v] at hy
      obtain ⟨z, hz, rz⟩ := reps_at r ha
      exact ⟨p, vs, i, z, rfl, hy, st, hz, q w H z (.refl w) hs rz⟩)
theorem rc_len_V (hv : LV M d ds) : RC C (rLenS C.K) M [d] (dInt ds.length) M := fun w H xs hs r Q q => by
  obtain ⟨y, rfl, r1⟩ := reps_one r
  obtain ⟨p, vs, rfl, st, rs⟩ := hs.lv hv r1
  exact ⟨p, vs, rfl, .inl st, by rw [rs.length]; exact q w H _ (.refl w) hs rep_v'⟩
theorem ed_len_V (h : ED C S M e d M1) (hv : LV M1 d ds) (hm : C.mg "len" = none) (hg : ∀ p, (C.env p).kindOf "len" = some .globalImplicit := by intro _; rfl) (he : ∀ p, starEach [e] (C.env p) = (false, eval e (C.env p)) :: starEach [] (C.env p) := by intro _; rfl) :
    ED C S M (.Call (.Name "len" p2) [e] [] pos) (dInt ds.length) M1 := ed_callB callLen (ad_cons h ad_nil he) (rc_len_V hv) hm boot_len hg (by decide) (by decide) he
theorem rc_lst_V (hv : LV M d ds) : RC C (rLstS C.K) M [d] (.lst ds) M := fun w H xs hs r Q q => by
  obtain ⟨y, rfl, r1⟩ := reps_one r
  obtain ⟨p, vs, rfl, st, rs⟩ := hs.lv hv r1
  refine ⟨p, vs, rfl, .inl st, fun l hl => ?_⟩
  obtain ⟨g, s4, r4⟩ := hs.put_lst rs hl
  exact q _ _ _ g s4 r4
theorem rc_lstR_V (hv : LV M d ds) : RC C (rLstS C.K) M [d] (.res M.length) (M ++ [.lst ds]) := fun w H xs hs r Q q => by
  obtain ⟨y, rfl, r1⟩ := reps_one r
  obtain ⟨p, vs, rfl, st, rs⟩ := hs.lv hv r1
  refine ⟨p, vs, rfl, .inl st, fun l hl => ?_⟩
  obtain ⟨g, s4, r4⟩ := hs.put_res (mo := .lst ds) (o := .lst vs) ⟨vs, rfl, rs⟩ hl
  exact q _ _ _ g s4 r4
theorem ed_listV (h : ED C S M e d M1) (hv : LV M1 d ds) (hm : C.mg "list" = none) (hg : ∀ p, (C.env p).kindOf "list" = some .globalImplicit := by intro _; rfl) (he : ∀ p, starEach [e] (C.env p) = (false, eval e (C.env p)) :: starEach [] (C.env p) := by intro _; rfl) :
    ED C S M (.Call (.Name "list" p2) [e] [] pos) (.lst ds) M1 := ed_callTy callLst (ad_cons h ad_nil he) (rc_lst_V hv) hm boot_list hg (by decide) (by decide) he
theorem ed_listVR (h : ED C S M e d M1) (hv : LV M1 d ds) (hm : C.mg "list" = none) (hg : ∀ p, (C.env p).kindOf "list" = some .globalImplicit := by intro _; rfl) (he : ∀ p, starEach [e] (C.env p) = (false, eval e (C.env p)) :: starEach [] (C.env p) := by intro _; rfl) :
    ED C S M (.Call (.Name "list" p2) [e] [] pos) (.res M1.length) (M1 ++ [.lst ds]) := ed_callTy callLst (ad_cons h ad_nil he) (rc_lstR_V hv) hm boot_list hg (by decide) (by decide) he
theorem ID.weaken {PM' : Mem → Prop} (h : ID C S M tg e items PM M') (hw : ∀ M, PM' M → PM M) : ID C S M tg e items PM' M' := fun w σ H hs hp R q =>
  h w σ H hs hp R fun w1 H1 J l s it => q w1 H1 J l s fun i w2 H2 M2 l2 s2 p2 => it i w2 H2 M2 l2 s2 (hw _ p2)
theorem id_V (h : ED C S M e d M') (hv : LV M' d ds) : ID C S M tg e ds (fun M => LV M d ds) M' := by
  cases d with
  | lst es =>
    cases (show es = ds from hv)
    exact (id_lst h).weaken fun _ _ => trivial
  | res n => exact id_res h hv
  | v _ => exact hv.elim
  | tup _ => exact hv.elim
theorem rv_catS (v1 : LV M d1 ds) (v2 : LV M d2 ds2) (hl : ds.length + ds2.length ≤ 100000) : RV C (rCatS C.K) M d1 d2 (.lst (ds ++ ds2)) M := fun w H x y hs hx hy Q q => by
  obtain ⟨p, vs, rfl, st, r⟩ := hs.lv v1 hx
  obtain ⟨p', us, rfl, st', r'⟩ := hs.lv v2 hy
  refine ⟨p, p', vs, us, rfl, rfl, st, st', by rw [r.length, r'.length]; exact sz hl, fun l hl => ?_⟩
  obtain ⟨g, s4, r4⟩ := hs.put_lst (r.append r') hl
  exact q _ _ _ g s4 r4
theorem ed_catL (h1 : ED C S M a d1 M1) (h2 : ED C S M1 b d2 M2) (v1 : LV M2 d1 ds) (v2 : LV M2 d2 ds2) (hl : ds.length + ds2.length ≤ 100000) : ED C S M (.BinOp a .Add b pos) (.lst (ds ++ ds2)) M2 :=
  ed_op (fun X hX => by
    have z := op_catS (X := X)
    cases hX with | mk p => exact z) h1 h2 (rv_catS v1 v2 hl)
/-- t + u -/
theorem ed_catT (h1 : ED C S M a (.tup ds) M1) (h2 : ED C S M1 b (.tup ds2) M2) (hl : ds.length + ds2.length ≤ 100000) : ED C S M (.BinOp a .Add b pos) (.tup (ds ++ ds2)) M2 :=
  ed_op (r := rCatA C.K) (fun X hX => by
    have z := op_catA (X := X)
    cases hX with | mk p => exact z) h1 h2 fun w H x y hs hx hy Q q => by
      have hx' := hx
      have hy' := hy
      obtain ⟨p, vs, rfl, st, r⟩ := hs.tupH hx
      obtain ⟨p', us, rfl, st', r'⟩ := hs.tupH hy
      refine ⟨p, p', vs, us, rfl, rfl, st, st', by rw [r.length, r'.length]; exact sz hl, fun e => ?_, fun _ e => ?_, fun _ _ l hl => ?_⟩
      · subst e
        have : ds = [] := List.eq_nil_of_length_eq_zero r.length.symm
        subst this
        exact q w H _ (.refl w) hs hy'
      · subst e
        have : ds2 = [] := List.eq_nil_of_length_eq_zero r'.length.symm
        subst this
        rw [List.append_nil] at q
        exact q w H _ (.refl w) hs hx'
      · obtain ⟨g, s4, r4⟩ := hs.put_tup (r.append r') hl
        exact q _ _ _ g s4 r4
/-! ### slices -/
def cutD (ds : List D) (lo hi : Option Int) : List D := (ds.drop (HT.sIx ds.length 0 lo)).take (HT.sIx ds.length ds.length hi - HT.sIx ds.length 0 lo)
theorem reps_cut {vs : List V} (lo hi : Option Int) (r : Reps K w ds vs) : Reps K w (cutD ds lo hi) (cutV vs lo hi) := by
  unfold cutD cutV
  rw [r.length]
  exact (r.drop _).take _
/-- a bound of a slice -/
inductive OD (C : Ctx) (S : DS) : Mem → Option Expr → Option Int → Mem → Prop
  | no {M : Mem} : OD C S M none none M
  | is {M M' : Mem} {e : Expr} {i : Int} (h : ED C S M e (dInt i) M') : OD C S M (some e) (some i) M'
def wO (C : Ctx) : Option Expr → TO
  | none => tNoPart
  | some e => tPart (wE C e)
theorem po_w {X : Cx} (h : C.Has X) : ∀ {e : Option Expr}, PO X e (wO C e)
  | none => po_none
  | some e => po_some (pe_w h)
theorem OD.read {eo : Option Expr} {io : Option Int} (h : OD C S M eo io M1) (hs : SatM C.K w H M) {σ : L2.St} (hr : RepS C.K w S σ) {Q : Option Int → Hp → Prop} (q : ∀ w' H', Go w H w' H' → SatM C.K w' H' M1 → Q io H') : wO C eo σ H Q := by
  cases h with
  | no => exact q w H (.refl w) hs
  | is h => exact h w σ H hs hr _ fun w1 H1 y l s r => ⟨_, rep_v.mp r, q w1 H1 l s⟩
theorem ed_sliceV {lo hi : Option Expr} {li ui : Option Int} {p3 : Pos} (h1 : ED C S M a d M1) (hl : OD C S M1 lo li M2) (hu : OD C S M2 hi ui M3) (hv : LV M3 d ds) : ED C S M (.Subscript a (.Slice lo hi none p3) pos) (.lst (cutD ds li ui)) M3 :=
  ED.of (t := tSl (rSlL C.K) (wE C a) (wO C lo) (wO C hi)) (fun X hX => by
    have z : PE X (.Subscript a (.Slice lo hi none p3) pos) (tSl (rSlL X.K) (wE C a) (wO C lo) (wO C hi)) := pe_slice sl_list (pe_w hX) (po_w hX) (po_w hX)
    cases hX with | mk p => exact z) fun w σ H hs hr Q q => h1 w σ H hs hr _ fun w1 H1 x l1 s1 r1 => hl.read s1 (hr.go l1) fun w2 H2 l2 s2 => hu.read s2 (hr.go (l1.trans l2)) fun w3 H3 l3 s3 => by
      obtain ⟨p, vs, rfl, st, rs⟩ := s3.lv hv (r1.go (l2.trans l3))
      refine ⟨p, vs, rfl, st, fun l hl => ?_⟩
      obtain ⟨g, s4, r4⟩ := s3.put_lst (reps_cut li ui rs) hl
      exact q _ _ _ (((l1.trans l2).trans l3).trans g) s4 r4
theorem ed_sliceT {lo hi : Option Expr} {li ui : Option Int} {p3 : Pos} (h1 : ED C S M a (.tup ds) M1) (hl : OD C S M1 lo li M2) (hu : OD C S M2 hi ui M3) : ED C S M (.Subscript a (.Slice lo hi none p3) pos) (.tup (cutD ds li ui)) M3 :=
  ED.of (t := tSl (rSlA C.K) (wE C a) (wO C lo) (wO C hi)) (fun X hX => by
    have z : PE X (.Subscript a (.Slice lo hi none p3) pos) (tSl (rSlA X.K) (wE C a) (wO C lo) (wO C hi)) := pe_slice sl_tupA (pe_w hX) (po_w hX) (po_w hX)
    cases hX with | mk p => exact z) fun w σ H hs hr Q q => h1 w σ H hs hr _ fun w1 H1 x l1 s1 r1 => hl.read s1 (hr.go l1) fun w2 H2 l2 s2 => hu.read s2 (hr.go (l1.trans l2)) fun w3 H3 l3 s3 => by
      have r3 := r1.go (l2.trans l3)
      have r3' := r3
      obtain ⟨p, vs, rfl, st, rs⟩ := s3.tupH r3
      refine ⟨p, vs, rfl, st, fun hw => ?_, fun _ l hl => ?_⟩
      · have e : cutD ds li ui = ds := by
          rw [rs.length] at hw
          unfold cutD
          rw [hw.1, hw.2]
          simp
        rw [e] at q
        exact q _ _ _ ((l1.trans l2).trans l3) s3 r3'
      · obtain ⟨g, s4, r4⟩ := s3.put_tup (reps_cut li ui rs) hl
        exact q _ _ _ (((l1.trans l2).trans l3).trans g) s4 r4
/-! ### == of what may change -/
def CmpM (K : PySem.W.Frag) (M : Mem) (d : D) (p : PyData) : Prop := ∀ w H y, SatM K w H M → Rep K w d y → Dp K H y p
def CmpMs (K : PySem.W.Frag) (M : Mem) (ds : List D) (ps : List PyData) : Prop := ∀ w H ys, SatM K w H M → Reps K w ds ys → DpAll K H ys ps
theorem cm_flat (h : flatD d = true) : CmpM K M d (pyd d) := fun w H y s r => dp_of s.same r h
theorem cms_flat (h : flatDs ds = true) : CmpMs K M ds (pyds ds) := fun w H y s r => dps_of s.same r h
theorem cms_nil : CmpMs K M [] [] := fun w H ys s r => by
  rw [reps_nil] at r
  subst r
  exact .nil
theorem cms_cons {p : PyData} {ps : List PyData} (h1 : CmpM K M d p) (h2 : CmpMs K M ds ps) : CmpMs K M (d :: ds) (p :: ps) := fun w H ys s r => by
  rw [reps_cons] at r
  obtain ⟨y, yr, rfl, r1, r2⟩ := r
  exact .cons (h1 w H y s r1) (h2 w H yr s r2)
theorem cm_tup {ps : List PyData} (h : CmpMs K M ds ps) : CmpM K M (.tup ds) (.tuple ps) := fun w H y s r => by
  obtain ⟨p, vs, rfl, st, rs⟩ := s.tupH r
  exact .tup st (h w H vs s rs)
theorem cm_V {ps : List PyData} (hv : LV M d ds) (h : CmpMs K M ds ps) : CmpM K M d (.list ps) := fun w H y s r => by
  obtain ⟨p, vs, rfl, st, rs⟩ := s.lv hv r
  exact .lst st (h w H vs s rs)
section
variable {pa pb : PyData} (hA : C.A.units + 64 < cLine)
theorem opEq (hA : C.A.units + 64 < cLine) : ∀ X, C.Has X → OpR X (compareOp .Eq) (rEqD C.K) := fun X hX => by
  have z : X.A.units + 64 < cLine → OpR X (compareOp .Eq) (rEqD X.K) := op_eqD
  cases hX with | mk p => exact z hA
theorem opNe (hA : C.A.units + 64 < cLine) : ∀ X, C.Has X → OpR X (compareOp .NotEq) (rNeD C.K) := fun X hX => by
  have z : X.A.units + 64 < cLine → OpR X (compareOp .NotEq) (rNeD X.K) := op_neD
  cases hX with | mk p => exact z hA
theorem rv_eqM (c1 : CmpM C.K M da pa) (c2 : CmpM C.K M db pb) (s1 : SeqAt.shaped pa = true) (s2 : SeqAt.shaped pb = true) : RV C (rEqD C.K) M da db (.v (.bl (PyData.eqv pa pb))) M := fun w H x y hs hx hy Q q =>
  ⟨_, _, c1 w H x hs hx, c2 w H y hs hy, s1, s2, q w H _ (.refl w) hs rep_v'⟩
theorem rv_neM (c1 : CmpM C.K M da pa) (c2 : CmpM C.K M db pb) (s1 : SeqAt.shaped pa = true) (s2 : SeqAt.shaped pb = true) : RV C (rNeD C.K) M da db (.v (.bl (!PyData.eqv pa pb))) M := fun w H x y hs hx hy Q q =>
  ⟨_, _, c1 w H x hs hx, c2 w H y hs hy, s1, s2, q w H _ (.refl w) hs rep_v'⟩
theorem ed_eqM (hA : C.A.units + 64 < cLine) (h1 : ED C S M a da M1) (h2 : ED C S M1 b db M2) (c1 : CmpM C.K M2 da pa) (c2 : CmpM C.K M2 db pb) (s1 : SeqAt.shaped pa = true) (s2 : SeqAt.shaped pb = true) : ED C S M (.Compare a [.Eq] [b] pos) (.v (.bl (PyData.eqv pa pb))) M2 := ed_cmpR (opEq hA) h1 h2 (rv_eqM c1 c2 s1 s2) (nomark _)
theorem ed_neM (hA : C.A.units + 64 < cLine) (h1 : ED C S M a da M1) (h2 : ED C S M1 b db M2) (c1 : CmpM C.K M2 da pa) (c2 : CmpM C.K M2 db pb) (s1 : SeqAt.shaped pa = true) (s2 : SeqAt.shaped pb = true) : ED C S M (.Compare a [.NotEq] [b] pos) (.v (.bl (!PyData.eqv pa pb))) M2 := ed_cmpR (opNe hA) h1 h2 (rv_neM c1 c2 s1 s2) (nomark _)
theorem td_eqM (hA : C.A.units + 64 < cLine) (h1 : ED C S M a da M1) (h2 : ED C S M1 b db M2) (c1 : CmpM C.K M2 da pa) (c2 : CmpM C.K M2 db pb) (s1 : SeqAt.shaped pa = true) (s2 : SeqAt.shaped pb = true) : TD C S M (.Compare a [.Eq] [b] pos) (PyData.eqv pa pb) M2 := td_cmpR (opEq hA) h1 h2 (rv_eqM c1 c2 s1 s2) (nomark _)
theorem td_neM (hA : C.A.units + 64 < cLine) (h1 : ED C S M a da M1) (h2 : ED C S M1 b db M2) (c1 : CmpM C.K M2 da pa) (c2 : CmpM C.K M2 db pb) (s1 : SeqAt.shaped pa = true) (s2 : SeqAt.shaped pb = true) : TD C S M (.Compare a [.NotEq] [b] pos) (!PyData.eqv pa pb) M2 := td_cmpR (opNe hA) h1 h2 (rv_neM c1 c2 s1 s2) (nomark _)
theorem td_inM (hA : C.A.units + 65 < cLine) {ps : List PyData} (h1 : ED C S M a da M1) (h2 : ED C S M1 b db M2) (c1 : CmpM C.K M2 da pa) (c2 : CmpM C.K M2 db (.list ps)) (s1 : SeqAt.shaped pa = true) (s2 : SeqAt.shaped (.list ps) = true) (hm : behindInMarks .In b = false := by with_unfolding_all rfl) :
    TD C S M (.Compare a [.In] [b] pos) (ps.any fun z => PyData.eqv z pa) M2 := td_cmpR (r := rInD C.K) (fun X hX => by
      have z : X.A.units + 65 < cLine → OpR X (compareOp .In) (rInD X.K) := op_inD
      cases hX with | mk p => exact z hA) h1 h2 (fun w H x y hs hx hy Q q => ⟨_, _, c1 w H x hs hx, c2 w H y hs hy, s1, s2, q w H _ (.refl w) hs rep_v'⟩) hm
theorem td_ninM (hA : C.A.units + 65 < cLine) {ps : List PyData} (h1 : ED C S M a da M1) (h2 : ED C S M1 b db M2) (c1 : CmpM C.K M2 da pa) (c2 : CmpM C.K M2 db (.list ps)) (s1 : SeqAt.shaped pa = true) (s2 : SeqAt.shaped (.list ps) = true) (hm : behindInMarks .NotIn b = false := by with_unfolding_all rfl) :
    TD C S M (.Compare a [.NotIn] [b] pos) (!ps.any fun z => PyData.eqv z pa) M2 := td_cmpR (r := rNotInD C.K) (fun X hX => by
      have z : X.A.units + 65 < cLine → OpR X (compareOp .NotIn) (rNotInD X.K) := op_notInD
      cases hX with | mk p => exact z hA) h1 h2 (fun w H x y hs hx hy Q q => ⟨_, _, c1 w H x hs hx, c2 w H y hs hy, s1, s2, q w H _ (.refl w) hs rep_v'⟩) hm
end
/-! ### rows: lists of tuples of ints -/
abbrev rowsD (L : List (List Int)) : List D := L.map tupI
theorem rowsD_flat : ∀ L : List (List Int), flatDs (rowsD L) = true
  | [] => rfl
  | r :: L => by
    have := rowsD_flat L
    simp only [rowsD, List.map_cons, flatDs, (tupI_ok r).fl, Bool.true_and] at this ⊢
    exact this
theorem rowsD_can : ∀ L : List (List Int), PyData.canLayAll0 (pyds (rowsD L)) = true ∧ PyData.depthAll (pyds (rowsD L)) ≤ 1
  | [] => by simp [pyds, PyData.canLayAll0, PyData.depthAll]
  | r :: L => by
    obtain ⟨h1, h2⟩ := rowsD_can L
    obtain ⟨h3, h4⟩ := intsD_can r
    refine ⟨by simp only [rowsD, List.map_cons, pyds, pyd, PyData.canLayAll0, PyData.canLay0, h3, Bool.true_and]; exact h1, ?_⟩
    simp only [rowsD, List.map_cons, pyds, pyd, PyData.depthAll, PyData.depth, h4]
    have : PyData.depthAll (pyds (rowsD L)) ≤ 1 := h2
    simp only [rowsD] at this
    omega
theorem rowsD_eqv : ∀ L L' : List (List Int), PyData.eqvAll (pyds (rowsD L)) (pyds (rowsD L')) = decide (L = L')
  | [], [] => by simp [pyds, PyData.eqvAll]
  | [], _ :: _ => by simp [pyds, PyData.eqvAll]
  | _ :: _, [] => by simp [pyds, PyData.eqvAll]
  | r :: L, r' :: L' => by
    have h := rowsD_eqv L L'
    have h2 := tupI_eqv r r'
    simp only [rowsD, List.map_cons, pyds, PyData.eqvAll] at h ⊢
    rw [h2, h]
    by_cases e : r = r'
    · subst e; simp
    · simp [e]
theorem rows_shaped (L : List (List Int)) : SeqAt.shaped (.list (pyds (rowsD L))) = true := by
  obtain ⟨h1, h2⟩ := rowsD_can L
  unfold SeqAt.shaped
  have : PyData.depth (.list (pyds (rowsD L))) ≤ 64 := by simp only [PyData.depth]; omega
  simp only [PyData.canLay0, h1, Bool.true_and, decide_eq_true_eq]
  exact this
theorem rows_eqv (L L' : List (List Int)) : PyData.eqv (.list (pyds (rowsD L))) (.list (pyds (rowsD L'))) = decide (L = L') := by
  simp only [PyData.eqv, rowsD_eqv]
theorem cm_rows {L : List (List Int)} (hv : LV M d (rowsD L)) : CmpM K M d (.list (pyds (rowsD L))) := cm_V hv (cms_flat (rowsD_flat L))
theorem cm_tupI (r : List Int) : CmpM K M (tupI r) (pyd (tupI r)) := cm_flat (tupI_ok r).fl
/-! ### .append, l[i] = e -/
theorem ed_append {n : Nat} {apos : Pos} (h1 : ED C S M a (.res n) M1) (h2 : ED C S M1 e d M2) (hM1 : M1[n]? = some (.lst ds2)) (hM : M2[n]? = some (.lst ds)) (hl : ds.length < 100000) (hbase : ∀ p, attributeBase a "append" (C.env p) (eval a (C.env p)) = eval a (C.env p) := by intro _; rfl)
    (hfew : ∀ p, ((backTo pos (starEach [e] (C.env p))).all (fun x => !x.1) && (backToKw pos (keywordEach [] (C.env p))).all (fun x => x.1.isSome)
      && decide ([e].length + ([] : List Keyword).length + (if ([] : List Keyword).isEmpty then 0 else 1) < 30)) = true := by intro _; rfl)
    (hline : (apos.endLine == pos.line) = true := by rfl) (hs : ∀ p, starEach [e] (C.env p) = (false, eval e (C.env p)) :: starEach [] (C.env p) := by intro _; rfl) : ED C S M (.Call (.Attribute a "append" apos) [e] [] pos) (.v .non) (M2.set n (.lst (ds ++ [d]))) :=
  ed_bm (r := rAppend) PySem.F.plainAttrs_list PySem.F.slot_list_append (by first | exact PySem.F.type_list_append | rfl) (fun X hX => mt_append) h1 (tyD_res hM1) (ad_cons h2 ad_nil hs) (fun w H x xs hs r1 r2 Q q => by
    obtain ⟨y, rfl, ry⟩ := reps_one r2
    obtain ⟨p, vs, hp, rfl, e, rs⟩ := hs.resL r1 hM
    refine ⟨p, vs, y, rfl, rfl, e, by rw [rs.length]; exact Nat.lt_of_lt_of_le hl (by decide), q w _ _ (Go.chg hp) (hs.chg hp ⟨_, rfl, rs.append (reps_cons' ry reps_nil')⟩) rep_v'⟩) hbase hfew hline hs
/-! ### dicts with tuples as keys -/
section
variable {κ : Type} [DecidableEq κ]
def putD (kvs : List (κ × D)) (k : κ) (v : D) : List (κ × D) := if (kvs.any fun kv => decide (kv.1 = k)) = true then kvs.map (fun kv => if kv.1 = k then (kv.1, v) else kv) else kvs ++ [(k, v)]
theorem kv_any {kvs : List (κ × D)} {ws : List (κ × V)} {k : κ} (h : ws.map (·.1) = kvs.map (·.1)) : (ws.any fun kv => decide (kv.1 = k)) = kvs.any fun kv => decide (kv.1 = k) := by
  have h1 : ∀ {α : Type} (l : List (κ × α)), (l.any fun kv => decide (kv.1 = k)) = (l.map (·.1)).any fun z => decide (z = k) := fun l => by rw [List.any_map]; rfl
  rw [h1, h1, h]
theorem kvrep_put {kvs : List (κ × D)} {ws : List (κ × V)} {k : κ} {v : V} (h : KVRep K w kvs ws) (r : Rep K w d v) : KVRep K w (putD kvs k d) (putK ws k v) := by
  obtain ⟨h1, h2⟩ := h
  unfold putD putK
  rw [kv_any h1]
  by_cases q : (kvs.any fun kv => decide (kv.1 = k)) = true
  · rw [if_pos q, if_pos q]
    clear q
    induction kvs generalizing ws with
    | nil =>
      cases ws with
      | nil => exact ⟨rfl, reps_nil'⟩
      | cons _ _ => simp at h1
    | cons kv kvs ih =>
      cases ws with
      | nil => simp at h1
      | cons wv ws =>
        simp only [List.map_cons, List.cons.injEq] at h1
        simp only [List.map_cons] at h2
        rw [reps_cons] at h2
        obtain ⟨y, ys, e, r1, r2⟩ := h2
        obtain ⟨e1, e2⟩ := List.cons.inj e
        obtain ⟨i1, i2⟩ := ih h1.2 (e2 ▸ r2)
        simp only [List.map_cons, h1.1]
        by_cases hk : kv.1 = k
        · rw [if_pos hk, if_pos hk]
          exact ⟨by simp only [List.map_cons, i1], by
            simp only [List.map_cons]
            exact reps_cons' r i2⟩
        · rw [if_neg hk, if_neg hk]
          exact ⟨by simp only [List.map_cons, i1, h1.1], by
            simp only [List.map_cons]
            exact reps_cons' (e1 ▸ r1) i2⟩
  · rw [if_neg q, if_neg q]
    exact ⟨by simp only [List.map_append, h1, List.map_cons, List.map_nil], by
      simp only [List.map_append, List.map_cons, List.map_nil]
      exact h2.append (reps_cons' r reps_nil')⟩
theorem KVRep.length {kvs : List (κ × D)} {ws : List (κ × V)} (h : KVRep K w kvs ws) : ws.length = kvs.length := by
  have := congrArg List.length h.1
  simpa using this
end
theorem ed_dnewT : ED C S M (.Dict [] [] pos) (.res M.length) (M ++ [.dT []]) :=
  ED.of (t := tDNewT) (fun X hX => pe_dnewT) fun w σ H hs hr Q q p hp => by
    obtain ⟨g, s4, r4⟩ := hs.put_res (mo := .dT []) (o := .dT []) ⟨[], rfl, rfl, reps_nil'⟩ hp
    exact q _ _ _ g s4 r4
theorem ed_dnewK : ED C S M (.Dict [] [] pos) (.res M.length) (M ++ [.dK []]) :=
  ED.of (t := tDNewK) (fun X hX => pe_dnewK) fun w σ H hs hr Q q p hp => by
    obtain ⟨g, s4, r4⟩ := hs.put_res (mo := .dK []) (o := .dK []) ⟨[], rfl, rfl, reps_nil'⟩ hp
    exact q _ _ _ g s4 r4
def keyI (ns : List Int) : List Key := ns.map Sum.inl
theorem keyI_kV (ns : List Int) : (keyI ns).map kV = ns.map V.int := by unfold keyI; rw [List.map_map]; rfl
theorem rep_tupI {ns : List Int} {y : V} (s : SatM K w H M) (r : Rep K w (tupI ns) y) : ∃ p, y = .ref p ∧ H p = some (.tup (ns.map V.int)) := by
  obtain ⟨p, vs, rfl, st, rs⟩ := s.tupX r
  have e : intsD ns = (ns.map V.int).map D.v := by unfold intsD; rw [List.map_map]; rfl
  rw [e, reps_vs] at rs
  subst rs
  exact ⟨p, rfl, st⟩
theorem sd_dputT {n : Nat} {kvs : List (List Key × D)} {key : List Int} (hA : C.A.units + 1 < cLine) (hv : ED C S M value dv M1) (ho : ED C S M1 o (.res n) M2) (hi : ED C S M2 i (tupI key) M3) (hM : M3[n]? = some (.dT kvs)) (hl : kvs.length < 100000)
    (hs : ∀ p, swapsWith value (some (.Subscript o i pos')) pos.line (C.env p) = pure false := by intro _; rfl) : SD C S M (.Assign [.Subscript o i pos'] value pos) (.nx S (M3.set n (.dT (putD kvs (keyI key) dv)))) :=
  SD.of (t := fun _ => sDPut (wE C o) (wE C i) (wE C value)) (fun W X hX ow => by
    have z : X.A.units + 1 < cLine → _ → PS X (.Assign [.Subscript o i pos'] value pos) (sDPut (wE C o) (wE C i) (wE C value)) := fun hu hs => ps_dput hu (pe_w hX) (pe_w hX) (pe_w hX) hs
    cases hX with | mk p => exact z hA (hs p)) fun W E w σ H hsat hr q =>
    hv w σ H hsat hr _ fun w1 H1 v l1 s1 r1 => ho w1 σ H1 s1 (hr.go l1) _ fun w2 H2 x l2 s2 r2 => hi w2 σ H2 s2 (hr.go (l1.trans l2)) _ fun w3 H3 y l3 s3 r3 => by
      have r2' := r2.go l3
      rw [rep_res] at r2'
      obtain ⟨p, hp, rfl⟩ := r2'
      obtain ⟨p', o', e1, e2, ws, rfl, kr⟩ := s3.res hM
      rw [hp] at e1; cases e1
      obtain ⟨b, rfl, hb⟩ := rep_tupI s3 r3
      have lz : ws.length < sizeLine := by rw [kr.length]; exact Nat.lt_of_lt_of_le hl (by decide)
      refine ⟨p, _, rfl, DPut.t (k := keyI key) e2 (by rw [keyI_kV]; exact hb) lz, ?_⟩
      have g := ((l1.trans l2).trans l3).trans (Go.chg (o := .dT (putK ws (keyI key) v)) hp)
      exact q w3 _ σ g (s3.chg hp ⟨_, rfl, kvrep_put kr (r1.go (l2.trans l3))⟩) (hr.go g)
/-! ### sorted -/
theorem Reps.permF {α : Type} (f : α → D) {ys vs : List V} (p : ys.Perm vs) : ∀ L : List α, Reps K w (L.map f) vs → ∃ L' : List α, L'.Perm L ∧ Reps K w (L'.map f) ys := by
  induction p with
  | nil => intro L r; exact ⟨L, .refl _, r⟩
  | @cons x l1 l2 p ih =>
    intro L r
    cases L with
    | nil => rw [List.map_nil, reps_nil] at r; cases r
    | cons a L =>
      rw [List.map_cons, reps_cons] at r
      obtain ⟨y, yr, e, r1, r2⟩ := r
      cases e
      obtain ⟨L', p', r'⟩ := ih L r2
      exact ⟨a :: L', .cons _ p', reps_cons' r1 r'⟩
  | @swap x y l =>
    intro L r
    match L, r with
    | [], r => rw [List.map_nil, reps_nil] at r; cases r
    | [a], r =>
      rw [List.map_cons, reps_cons] at r
      obtain ⟨y, yr, e, r1, r2⟩ := r
      cases e
      rw [List.map_nil, reps_nil] at r2; cases r2
    | a :: b :: L, r =>
      rw [List.map_cons, reps_cons] at r
      obtain ⟨y, yr, e, r1, r2⟩ := r
      cases e
      rw [List.map_cons, reps_cons] at r2
      obtain ⟨y, yr, e, r2, r3⟩ := r2
      cases e
      exact ⟨b :: a :: L, .swap _ _ _, reps_cons' r2 (reps_cons' r1 r3)⟩
  | trans p1 p2 ih1 ih2 =>
    intro L r
    obtain ⟨L1, q1, r1⟩ := ih2 L r
    obtain ⟨L2, q2, r2⟩ := ih1 L1 r1
    exact ⟨L2, q2.trans q1, r2⟩
theorem tupI_of {ns : List Int} (s : SatM K w H M) (r : Rep K w (tupI ns) y) : TupI K H y ns := by
  obtain ⟨p, rfl, e⟩ := rep_tupI s r
  exact intTup e
theorem rows_items (s : SatM K w H M) : ∀ {L : List (List Int)} {vs : List V}, Reps K w (rowsD L) vs → (∀ r ∈ L, r ≠ []) → ∀ x ∈ vs, ∃ ns, TupI K H x ns ∧ ns ≠ []
  | [], vs, r, _, x, hx => by
    rw [rowsD, List.map_nil, reps_nil] at r
    subst r
    exact nomatch hx
  | a :: L, vs, r, hn, x, hx => by
    rw [rowsD, List.map_cons, reps_cons] at r
    obtain ⟨y, yr, rfl, r1, r2⟩ := r
    rcases List.mem_cons.mp hx with e | hx
    · subst e
      exact ⟨a, tupI_of s r1, hn a List.mem_cons_self⟩
    · exact rows_items s r2 (fun r hr => hn r (List.mem_cons_of_mem _ hr)) x hx
theorem rows_mem (s : SatM K w H M) : ∀ {L : List (List Int)} {vs : List V}, Reps K w (rowsD L) vs → ∀ r ∈ L, ∃ x ∈ vs, TupI K H x r
  | [], vs, _, r, hr => nomatch hr
  | a :: L, vs, rp, r, hr => by
    rw [rowsD, List.map_cons, reps_cons] at rp
    obtain ⟨y, yr, rfl, r1, r2⟩ := rp
    rcases List.mem_cons.mp hr with e | hr
    · subst e
      exact ⟨y, List.mem_cons_self, tupI_of s r1⟩
    · obtain ⟨x, hx, t⟩ := rows_mem s r2 r hr
      exact ⟨x, List.mem_cons_of_mem _ hx, t⟩
theorem asc_of (s : SatM K w H M) : ∀ {L : List (List Int)} {vs : List V}, Reps K w (rowsD L) vs → ascV K H vs → Asc L
  | [], vs, _, _ => List.Pairwise.nil
  | a :: L, vs, rp, h => by
    rw [rowsD, List.map_cons, reps_cons] at rp
    obtain ⟨y, yr, rfl, r1, r2⟩ := rp
    obtain ⟨h1, h2⟩ := List.pairwise_cons.mp h
    refine List.pairwise_cons.mpr ⟨fun b hb => ?_, asc_of s r2 h2⟩
    obtain ⟨x, hx, t⟩ := rows_mem s r2 b hb
    exact h1 x hx a b (tupI_of s r1) t
theorem rows_sorted (s : SatM K w H M) {L : List (List Int)} {vs ys : List V} (r : Reps K w (rowsD L) vs) (p : ys.Perm vs) (h : ascV K H ys) : Reps K w (rowsD (sortI L)) ys := by
  obtain ⟨L', p', r'⟩ := Reps.permF tupI p L r
  rw [← sortI_eq (asc_of s r' h) p']
  exact r'
theorem callSortTu : ∀ X, C.Has X → CallR X (.builtin "sorted") (rSortTu C.K) := fun X hX => by
  have z := cr_sortTups (X := X)
  cases hX with | mk p => exact z
theorem rc_sortV {L : List (List Int)} (hv : LV M d (rowsD L)) (hn : ∀ r ∈ L, r ≠ []) : RC C (rSortTu C.K) M [d] (.lst (rowsD (sortI L))) M := fun w H xs hs r Q q => by
  obtain ⟨y, rfl, r1⟩ := reps_one r
  obtain ⟨p, vs, rfl, st, rs⟩ := hs.lv hv r1
  refine ⟨p, vs, rfl, st, rows_items hs rs hn, fun ys l hp ha hl => ?_⟩
  obtain ⟨g, s4, r4⟩ := hs.put_lst (rows_sorted hs rs hp ha) hl
  exact q _ _ _ g s4 r4
theorem rc_sortVR {L : List (List Int)} (hv : LV M d (rowsD L)) (hn : ∀ r ∈ L, r ≠ []) : RC C (rSortTu C.K) M [d] (.res M.length) (M ++ [.lst (rowsD (sortI L))]) := fun w H xs hs r Q q => by
  obtain ⟨y, rfl, r1⟩ := reps_one r
  obtain ⟨p, vs, rfl, st, rs⟩ := hs.lv hv r1
  refine ⟨p, vs, rfl, st, rows_items hs rs hn, fun ys l hp ha hl => ?_⟩
  obtain ⟨g, s4, r4⟩ := hs.put_res (mo := .lst (rowsD (sortI L))) (o := .lst ys) ⟨ys, rfl, rows_sorted hs rs hp ha⟩ hl
  exact q _ _ _ g s4 r4
theorem ed_sortV {L : List (List Int)} (h : ED C S M e d M1) (hv : LV M1 d (rowsD L)) (hn : ∀ r ∈ L, r ≠ []) (hm : C.mg "sorted" = none) (hg : ∀ p, (C.env p).kindOf "sorted" = some .globalImplicit := by intro _; rfl) (he : ∀ p, starEach [e] (C.env p) = (false, eval e (C.env p)) :: starEach [] (C.env p) := by intro _; rfl) :
    ED C S M (.Call (.Name "sorted" p2) [e] [] pos) (.lst (rowsD (sortI L))) M1 := ed_callB callSortTu (ad_cons h ad_nil he) (rc_sortV hv hn) hm boot_sorted hg (by decide) (by decide) he
theorem ed_sortVR {L : List (List Int)} (h : ED C S M e d M1) (hv : LV M1 d (rowsD L)) (hn : ∀ r ∈ L, r ≠ []) (hm : C.mg "sorted" = none) (hg : ∀ p, (C.env p).kindOf "sorted" = some .globalImplicit := by intro _; rfl) (he : ∀ p, starEach [e] (C.env p) = (false, eval e (C.env p)) :: starEach [] (C.env p) := by intro _; rfl) :
    ED C S M (.Call (.Name "sorted" p2) [e] [] pos) (.res M1.length) (M1 ++ [.lst (rowsD (sortI L))]) := ed_callB callSortTu (ad_cons h ad_nil he) (rc_sortVR hv hn) hm boot_sorted hg (by decide) (by decide) he
/-- what stands in the heap as a tuple may be counted among the known -/
theorem SatM.tup_out {p : Addr} {vs : List V} (s : SatM K w H M) (e : H p = some (.tup vs)) : p ∉ w.ρ := fun hm => by
  obtain ⟨n, en⟩ := List.getElem?_of_mem hm
  have hn : n < M.length := by rw [← s.len]; exact (List.getElem?_eq_some_iff.mp en).1
  obtain ⟨_, o, e2, r⟩ := s.at_ n p M[n] en (List.getElem?_eq_getElem hn)
  rw [e] at e2; cases e2
  exact r.notTup
theorem SatM.knowT {p : Addr} {vs : List V} (s : SatM K w H M) (e : H p = some (.tup vs)) : ∃ w1, Go w H w1 H ∧ SatM K w1 H M ∧ w1.F p = some (.tup vs) := by
  cases z : w.F p with
  | some o =>
    have := s.same p o z
    rw [e] at this; cases this
    exact ⟨w, .refl w, s, z⟩
  | none =>
    refine ⟨w.put p (.tup vs), ⟨Wd.le_put z, fun a o e _ => e, fun a m => .inl m, fun a u e' => ?_⟩, s.fzn (s.tup_out e) z e, upd_same⟩
    by_cases ha : a = p
    · subst ha; exact .inr (.inr (.inr ⟨vs, e⟩))
    · have e2 : upd w.F p (.tup vs) a = some u := e'
      rw [upd_ne ha] at e2
      exact .inl e2
theorem SatM.knowKeys {ws : List (List Key × V)} {bs : List Addr} (pr : IsKeys H ws bs) : ∀ {w : Wd} {kk : List (List Int)}, SatM K w H M → ws.map (·.1) = kk.map keyI → ∃ w1, Go w H w1 H ∧ SatM K w1 H M ∧ Reps K w1 (rowsD kk) (bs.map V.ref) := by
  unfold IsKeys at pr
  induction pr with
  | nil =>
    intro w kk s hk
    cases kk with
    | nil => exact ⟨w, .refl w, s, reps_nil'⟩
    | cons _ _ => simp at hk
  | @cons q b qs bs hq t ih =>
    intro w kk s hk
    cases kk with
    | nil => simp at hk
    | cons k kk =>
      simp only [List.map_cons, List.cons.injEq] at hk
      have hb : H b = some (.tup (k.map V.int)) := by rw [hq, hk.1, keyI_kV]
      obtain ⟨w1, g1, s1, f1⟩ := s.knowT hb
      obtain ⟨w2, g2, s2, r2⟩ := ih s1 hk.2
      refine ⟨w2, g1.trans g2, s2, reps_cons' (rep_tup.mpr ⟨b, _, rfl, g2.le.same _ _ f1, ?_⟩) r2⟩
      have e : intsD k = (k.map V.int).map D.v := by unfold intsD; rw [List.map_map]; rfl
      rw [e, reps_vs]
theorem rc_sortDT {n : Nat} {kvs : List (List Key × D)} {kk : List (List Int)} (hM : M[n]? = some (.dT kvs)) (hk : kvs.map (·.1) = kk.map keyI) (hn : ∀ r ∈ kk, r ≠ []) : RC C (rSortDT C.K) M [.res n] (.lst (rowsD (sortI kk))) M := fun w H xs hs r Q q => by
  obtain ⟨y, rfl, r1⟩ := reps_one r
  rw [rep_res] at r1
  obtain ⟨p, hp, rfl⟩ := r1
  obtain ⟨p', o', e1, e2, ws, rfl, kr⟩ := hs.res hM
  rw [hp] at e1; cases e1
  refine ⟨p, ws, kk, rfl, .inl e2, kr.1.trans hk, hn, fun bs ys l hb hperm ha hl => ?_⟩
  obtain ⟨w1, g1, s1, rs⟩ := SatM.knowKeys hb hs (kr.1.trans hk)
  obtain ⟨g, s4, r4⟩ := s1.put_lst (rows_sorted s1 rs hperm ha) hl
  exact q _ _ _ (g1.trans g) s4 r4
theorem ed_sortDT {n : Nat} {kvs : List (List Key × D)} {kk : List (List Int)} (h : ED C S M e (.res n) M1) (hM : M1[n]? = some (.dT kvs)) (hk : kvs.map (·.1) = kk.map keyI) (hn : ∀ r ∈ kk, r ≠ []) (hc : C.calm = true) (hm : C.mg "sorted" = none) (hg : ∀ p, (C.env p).kindOf "sorted" = some .globalImplicit := by intro _; rfl) (he : ∀ p, starEach [e] (C.env p) = (false, eval e (C.env p)) :: starEach [] (C.env p) := by intro _; rfl) :
    ED C S M (.Call (.Name "sorted" p2) [e] [] pos) (.lst (rowsD (sortI kk))) M1 := ed_callB (fun X hX => by
      have z : X.calm = true → CallR X (.builtin "sorted") (rSortDT X.K) := call_sortedDT
      cases hX with | mk p => exact z hc) (ad_cons h ad_nil he) (rc_sortDT hM hk hn) hm boot_sorted hg (by decide) (by decide) he
end
end DL
set_option maxHeartbeats 2000000
namespace DL
open PySem PySem.Spec PyProof.Rows L2
/-! ### what a def leaves behind is forgotten -/
mutual
def D.under (n : Nat) : D → Prop
  | .v _ => True
  | .tup ds => Ds.under n ds
  | .lst ds => Ds.under n ds
  | .res m => m < n
def Ds.under (n : Nat) : List D → Prop
  | [] => True
  | d :: ds => D.under n d ∧ Ds.under n ds
end
def MO.under (n : Nat) : MO → Prop
  | .lst ds => Ds.under n ds
  | .dK kvs => Ds.under n (kvs.map (·.2))
  | .dT kvs => Ds.under n (kvs.map (·.2))
  | .ins _ fs => Ds.under n (fs.map (·.2))
  | .fz kvs _ => Ds.under n (kvs.map (·.2))
abbrev Wd.cut (w : Wd) (n : Nat) : Wd := ⟨w.ρ.take n, w.F⟩
section
variable {K : PySem.W.Frag} {w w' : Wd} {H H' : Hp} {M M1 J : Mem} {n m : Nat}
mutual
theorem D.under_mono (h : n ≤ m) : ∀ {d : D}, D.under n d → D.under m d
  | .v _, _ => by unfold D.under; trivial
  | .tup ds, q => by
    unfold D.under at q ⊢
    exact Ds.under_mono h q
  | .lst ds, q => by
    unfold D.under at q ⊢
    exact Ds.under_mono h q
  | .res k, q => by
    unfold D.under at q ⊢
    omega
theorem Ds.under_mono (h : n ≤ m) : ∀ {ds : List D}, Ds.under n ds → Ds.under m ds
  | [], _ => by unfold Ds.under; trivial
  | d :: ds, q => by
    unfold Ds.under at q ⊢
    exact ⟨D.under_mono h q.1, Ds.under_mono h q.2⟩
end
mutual
theorem Rep.cut : ∀ {d : D} {y : V}, D.under n d → Rep K w d y → Rep K (w.cut n) d y
  | .v _, y, _, r => by
    unfold Rep at r ⊢
    exact r
  | .tup ds, y, b, r => by
    unfold D.under at b
    unfold Rep at r ⊢
    obtain ⟨p, vs, e, s, r⟩ := r
    exact ⟨p, vs, e, s, Reps.cut b r⟩
  | .lst ds, y, b, r => by
    unfold D.under at b
    unfold Rep at r ⊢
    obtain ⟨p, vs, e, s, r⟩ := r
    exact ⟨p, vs, e, s, Reps.cut b r⟩
  | .res k, y, b, r => by
    unfold D.under at b
    unfold Rep at r ⊢
    obtain ⟨p, e, r⟩ := r
    refine ⟨p, ?_, r⟩
    show (w.ρ.take n)[k]? = some p
    rw [List.getElem?_take, if_pos b]
    exact e
theorem Reps.cut : ∀ {ds : List D} {vs : List V}, Ds.under n ds → Reps K w ds vs → Reps K (w.cut n) ds vs
  | [], vs, _, r => by
    unfold Reps at r ⊢
    exact r
  | d :: ds, vs, b, r => by
    unfold Ds.under at b
    unfold Reps at r ⊢
    obtain ⟨y, ys, e, r1, r2⟩ := r
    exact ⟨y, ys, e, Rep.cut b.1 r1, Reps.cut b.2 r2⟩
end
mutual
theorem Rep.under (h : w.ρ.length ≤ n) : ∀ {d : D} {y : V}, Rep K w d y → D.under n d
  | .v _, y, _ => by unfold D.under; trivial
  | .tup ds, y, r => by
    unfold Rep at r
    obtain ⟨p, vs, e, s, r⟩ := r
    unfold D.under
    exact Reps.under h r
  | .lst ds, y, r => by
    unfold Rep at r
    obtain ⟨p, vs, e, s, r⟩ := r
    unfold D.under
    exact Reps.under h r
  | .res k, y, r => by
    unfold Rep at r
    obtain ⟨p, e, r⟩ := r
    unfold D.under
    have := (List.getElem?_eq_some_iff.mp e).1
    omega
theorem Reps.under (h : w.ρ.length ≤ n) : ∀ {ds : List D} {vs : List V}, Reps K w ds vs → Ds.under n ds
  | [], vs, _ => by unfold Ds.under; trivial
  | d :: ds, vs, r => by
    unfold Reps at r
    obtain ⟨y, ys, e, r1, r2⟩ := r
    unfold Ds.under
    exact ⟨Rep.under h r1, Reps.under h r2⟩
end
theorem MRep.cut : ∀ {mo : MO} {o : HO}, MO.under n mo → MRep K w mo o → MRep K (w.cut n) mo o
  | .lst ds, o, b, ⟨vs, e, r⟩ => ⟨vs, e, r.cut b⟩
  | .dK kvs, o, b, ⟨ws, e, r1, r2⟩ => ⟨ws, e, r1, r2.cut b⟩
  | .dT kvs, o, b, ⟨ws, e, r1, r2⟩ => ⟨ws, e, r1, r2.cut b⟩
  | .ins C fs, o, b, ⟨dx, gs, e, r1, r2⟩ => ⟨dx, gs, e, r1, r2.cut b⟩
  | .fz kvs o0, o, b, ⟨e0, od, ws, e, r1, r2⟩ => ⟨e0, od, ws, e, r1, r2.cut b⟩
theorem MRep.under (h : w.ρ.length ≤ n) : ∀ {mo : MO} {o : HO}, MRep K w mo o → MO.under n mo
  | .lst ds, o, ⟨vs, e, r⟩ => r.under h
  | .dK kvs, o, ⟨ws, e, r1, r2⟩ => r2.under h
  | .dT kvs, o, ⟨ws, e, r1, r2⟩ => r2.under h
  | .ins C fs, o, ⟨dx, gs, e, r1, r2⟩ => r2.under h
  | .fz kvs o0, o, ⟨_, od, ws, e, r1, r2⟩ => r2.under h
theorem MO.under_mono (h : n ≤ m) : ∀ {mo : MO}, MO.under n mo → MO.under m mo
  | .lst ds, q => Ds.under_mono h q
  | .dK kvs, q => Ds.under_mono h q
  | .dT kvs, q => Ds.under_mono h q
  | .ins C fs, q => Ds.under_mono h q
  | .fz kvs _, q => Ds.under_mono h q
theorem SatM.under (s : SatM K w H M) {mo : MO} (h : mo ∈ M) : MO.under M.length mo := by
  obtain ⟨n, e⟩ := List.getElem?_of_mem h
  obtain ⟨p, o, _, _, r⟩ := s.res e
  exact r.under (by rw [s.len]; exact Nat.le_refl _)
theorem SatM.forget (s : SatM K w H (M1 ++ J)) (h : ∀ mo ∈ M1, MO.under M1.length mo) : SatM K (w.cut M1.length) H M1 := by
  have hl : w.ρ.length = M1.length + J.length := by rw [s.len, List.length_append]
  refine ⟨s.same, ?_, List.Nodup.sublist (List.take_sublist _ _) s.nd, fun n p mo e1 e2 => ?_⟩
  · show (w.ρ.take M1.length).length = _
    rw [List.length_take]; omega
  · have e1' : (w.ρ.take M1.length)[n]? = some p := e1
    have hn : n < M1.length := (List.getElem?_eq_some_iff.mp e2).1
    rw [List.getElem?_take, if_pos hn] at e1'
    obtain ⟨f, o, e3, r⟩ := s.at_ n p mo e1' (by rw [List.getElem?_append_left hn]; exact e2)
    exact ⟨f, o, e3, r.cut (h mo (List.mem_of_getElem? e2))⟩
theorem Go.cut (g : Go w H w' H') (h : w.ρ.length ≤ n) : Go w H (w'.cut n) H' := by
  obtain ⟨⟨l, e⟩, sm⟩ := g.le
  refine ⟨⟨⟨l.take (n - w.ρ.length), ?_⟩, sm⟩, g.keep, fun p m => g.newR p (List.mem_of_mem_take m), g.newF⟩
  show w'.ρ.take n = _
  rw [e, List.take_append, List.take_of_length_le h]
end
/-- a body's end as a call's: what is new and not told is forgotten -/
inductive OutFit (M : Mem) : Out → Res → Prop
  | is {o : Out} {r : Res} (h : outRes o = some r) : OutFit M o r
  | rt {d : D} {M1 : Mem} (J : Mem) (hl : M.length ≤ M1.length) (hm : ∀ mo ∈ M1, mo ∈ M ∨ MO.under M1.length mo) (hd : D.under M1.length d) : OutFit M (.rt d (M1 ++ J)) (.ok d M1)
  | nx {S : DS} {M1 : Mem} (J : Mem) (hl : M.length ≤ M1.length) (hm : ∀ mo ∈ M1, mo ∈ M ∨ MO.under M1.length mo) : OutFit M (.nx S (M1 ++ J)) (.ok (.v .non) M1)
  | er {c : Addr} {S : DS} {M1 : Mem} (J : Mem) (hl : M.length ≤ M1.length) (hm : ∀ mo ∈ M1, mo ∈ M ∨ MO.under M1.length mo) : OutFit M (.er c S (M1 ++ J)) (.er c M1)
theorem fit_rt {M : Mem} {d : D} (J : Mem) (hd : D.under M.length d) : OutFit M (.rt d (M ++ J)) (.ok d M) := .rt J (Nat.le_refl _) (fun _ h => .inl h) hd
theorem fnok_ofJ {P : Program} {w : World} {K : PySem.W.Frag} {mg : Str → Option Value} {base : Heap} {k n : Nat} {x qual : Str} {params : Arguments} {body : List Stmt} {scope : Scope} {f : Spc} {fa : Addr} {fd : FuncData} {N ps : List Str}
    (F : FunD K x qual params body scope [] [] fa fd) (Sc : FnScope N ps scope) (hn : ps.length = n)
    (h : ∀ (A : Around) (ds : List D) (M : Mem) (r : Res), Room k A → ds.length = n → f ds M r → ∃ o, OutFit M o r ∧ SDs (fnC P w K mg base N qual scope A) (startS N ds) M body o) : FnOk P w K mg base (L2.CX P w) (k + 1) fa fd ps (spD K n f) := by
  refine F.ok Sc (fun vs H Q E h => h.1.trans hn.symm) (fun cdv A outer s H vs Q E hr hsp => ?_)
  obtain ⟨hl, w0, M, ds, r, hsat, hrep, hf, hres⟩ := hsp
  obtain ⟨o, ho, hS⟩ := h (A.deeper (envOfC qual scope s.heap.objs.size fa cdv)) ds M r hr (hrep.length.symm.trans hl) hf
  have cl : ∀ {M1 : Mem}, M.length ≤ M1.length → (∀ mo ∈ M1, mo ∈ M ∨ MO.under M1.length mo) → ∀ mo ∈ M1, MO.under M1.length mo := fun hl hm mo m => by
    rcases hm mo m with q | q
    · exact MO.under_mono hl (hsat.under q)
    · exact q
  have key := hS (fun cls d _ H => E cls d H) { nx := fun _ H' => Q .non H', rt := Q } w0 (L2.start N vs) H hsat (reps_start hrep) (by
    cases ho with
    | is h =>
      cases o with
      | nx S1 M1 =>
        cases h
        exact fun w' H' σ' l s _ => hres w' H' _ l s rep_v'
      | rt d1 M1 =>
        cases h
        exact hres
      | bk _ _ => cases h
      | ct _ _ => cases h
      | er c1 S1 M1 =>
        cases h
        exact fun w' H' σ' l s _ => hres w' H' l s
    | rt J hl hm hd => exact fun w' H' y l s r => hres _ H' y (l.cut (by rw [hsat.len]; exact hl)) (s.forget (cl hl hm)) (r.cut hd)
    | nx J hl hm => exact fun w' H' σ' l s _ => hres _ H' _ (l.cut (by rw [hsat.len]; exact hl)) (s.forget (cl hl hm)) rep_v'
    | er J hl hm => exact fun w' H' σ' l s _ => hres _ H' (l.cut (by rw [hsat.len]; exact hl)) (s.forget (cl hl hm)))
  obtain ⟨t, ht, hq⟩ := key
  exact ⟨t, ht _ (Ctx.Has.mk (C := fnC P w K mg base N qual scope (A.deeper (envOfC qual scope s.heap.objs.size fa cdv))) (s.heap.objs.size, fa, cdv) s H outer (envOfC qual scope s.heap.objs.size fa cdv :: outer) [] [] _ trivial) ⟨takes_of rfl rfl rfl rfl, passes_of rfl, rfl, rfl⟩, hq⟩
theorem fd_ofJ {P : Program} {w : World} {K : PySem.W.Frag} {mg : Str → Option Value} {base : Heap} {k n : Nat} {x qual : Str} {params : Arguments} {body : List Stmt} {scope : Scope} {f : Spc} {fa : Addr} {fd : FuncData} {N ps : List Str}
    (F : FunD K x qual params body scope [] [] fa fd) (hm : mg x = some (.ref fa)) (Sc : FnScope N ps scope) (hn : ps.length = n)
    (hb : ∀ (kV doc pm : Value) (an : Option Addr) (cdv ct : Value) (us : List Value), us.length = ps.length → bindArgs (PySem.W.fnOf x qual params body scope .none kV doc pm an cdv ct) ⟨us, []⟩ = pure (ps.zip us))
    (h : ∀ (A : Around) (ds : List D) (M : Mem) (r : Res), Room k A → ds.length = n → f ds M r → ∃ o, OutFit M o r ∧ SDs (fnC P w K mg base N qual scope A) (startS N ds) M body o) : FD P w K mg base (k + 1) x n f :=
  ⟨fa, fd, ps, fnok_ofJ F Sc hn h, hm, F.kp, F.bindsN hb⟩
/-! data in which nothing may change -/
mutual
def D.fz : D → Bool
  | .v _ => true
  | .tup ds => Ds.fz ds
  | .lst ds => Ds.fz ds
  | .res _ => false
def Ds.fz : List D → Bool
  | [] => true
  | d :: ds => D.fz d && Ds.fz ds
end
mutual
theorem D.fz_under {n : Nat} : ∀ {d : D}, D.fz d = true → D.under n d
  | .v _, _ => by unfold D.under; trivial
  | .tup ds, h => by
    unfold D.under
    unfold D.fz at h
    exact Ds.fz_under h
  | .lst ds, h => by
    unfold D.under
    unfold D.fz at h
    exact Ds.fz_under h
  | .res _, h => by unfold D.fz at h; cases h
theorem Ds.fz_under {n : Nat} : ∀ {ds : List D}, Ds.fz ds = true → Ds.under n ds
  | [], _ => by unfold Ds.under; trivial
  | d :: ds, h => by
    unfold Ds.under
    unfold Ds.fz at h
    have h' := (Bool.and_eq_true _ _).mp h
    exact ⟨D.fz_under h'.1, Ds.fz_under h'.2⟩
end
mutual
theorem flat_fz : ∀ {d : D}, flatD d = true → D.fz d = true
  | .v _, _ => rfl
  | .tup ds, h => by
    unfold D.fz
    exact flats_fz (by simpa [flatD] using h)
  | .lst ds, h => by
    unfold D.fz
    exact flats_fz (by simpa [flatD] using h)
  | .res _, h => by simp [flatD] at h
theorem flats_fz : ∀ {ds : List D}, flatDs ds = true → Ds.fz ds = true
  | [], _ => rfl
  | d :: ds, h => by
    have h' : flatD d = true ∧ flatDs ds = true := by simpa [flatDs] using h
    unfold Ds.fz
    rw [flat_fz h'.1, flats_fz h'.2]; rfl
end
theorem tupI_fz (r : List Int) : D.fz (tupI r) = true := flat_fz (tupI_ok r).fl
theorem rowsD_fz (L : List (List Int)) : Ds.fz (rowsD L) = true := flats_fz (rowsD_flat L)
theorem lstR_fz (L : List (List Int)) : D.fz (.lst (rowsD L)) = true := by
  unfold D.fz
  exact rowsD_fz L
section
variable {C : Ctx} {S : DS} {M M1 : Mem} {a b : Expr} {d : D} {ds : List D} {pos p2 : Pos}
theorem ed_isinstV {T : String} (k : Bool) (h : AD C S M [a, b] [d, .v (.ty T)] M1) (hv : LV M1 d ds) (hm : C.mg "isinstance" = none) (hk : kitB "list" T = some k := by decide +kernel) (hg : ∀ p, (C.env p).kindOf "isinstance" = some .globalImplicit := by intro _; rfl)
    (he : ∀ p, starEach [a, b] (C.env p) = (false, eval a (C.env p)) :: starEach [b] (C.env p) := by intro _; rfl) (hpl : ∀ p, (backTo pos (starEach [b] (C.env p))).any (·.1) = false := by intro _; rfl) : ED C S M (.Call (.Name "isinstance" p2) [a, b] [] pos) (.v (.bl k)) M1 :=
  ed_callB (r := rIsi C.K) (fun X hX => by
    have z := call_isi (X := X)
    cases hX with | mk p => exact z) h (fun w H xs hs r Q q => by
      obtain ⟨y, z, rfl, r1, r2⟩ := reps_two r
      rw [rep_v] at r2
      subst r2
      obtain ⟨p, vs, rfl, st, _⟩ := hs.lv hv r1
      exact ⟨_, .ty T, .type "list", .type T, k, rfl, .ty T, sqL_ty st, kit_ty hk, q w H _ (.refl w) hs rep_v'⟩) hm boot_isinstance hg (by decide) (by decide) he hpl
end
/-! ### keys that are put once -/
def addK (kk : List (List Int)) (k : List Int) : List (List Int) := if k ∈ kk then kk else kk ++ [k]
abbrev keysT (kk : List (List Int)) : List (List Key × D) := kk.map fun k => (keyI k, D.v (.bl true))
theorem keyI_inj {a b : List Int} (h : keyI a = keyI b) : a = b := by
  have h2 := congrArg (fun l => l.map fun z : Key => match z with | .inl i => i | .inr _ => 0) h
  simpa [keyI, List.map_map, Function.comp_def] using h2
theorem keys_any (kk : List (List Int)) (k : List Int) : ((keysT kk).any fun kv => decide (kv.1 = keyI k)) = decide (k ∈ kk) := by
  rw [Bool.eq_iff_iff]
  simp only [List.any_eq_true, List.mem_map, decide_eq_true_eq]
  constructor
  · rintro ⟨x, ⟨a, ha, rfl⟩, h⟩
    rw [← keyI_inj h]; exact ha
  · intro h
    exact ⟨_, ⟨k, h, rfl⟩, rfl⟩
theorem put_keys (kk : List (List Int)) (k : List Int) : putD (keysT kk) (keyI k) (.v (.bl true)) = keysT (addK kk k) := by
  unfold putD addK
  rw [keys_any]
  by_cases h : k ∈ kk
  · rw [if_pos (decide_eq_true h), if_pos h]
    refine (List.map_congr_left fun kv hkv => ?_).trans (List.map_id _)
    obtain ⟨a, _, rfl⟩ := List.mem_map.mp hkv
    by_cases e : keyI a = keyI k
    · rw [if_pos e]; rfl
    · rw [if_neg e]; rfl
  · rw [if_neg (by simpa using h), if_neg h]
    show _ = (kk ++ [k]).map _
    rw [List.map_append]; rfl
theorem keys_fst (kk : List (List Int)) : (keysT kk).map (·.1) = kk.map keyI := by rw [List.map_map]; rfl
theorem addK_nodup {kk : List (List Int)} {k : List Int} (h : kk.Nodup) : (addK kk k).Nodup := by
  unfold addK
  split
  · exact h
  · rename_i hn
    exact List.nodup_append.mpr ⟨h, by simp, fun a ha b hb e => hn (by
      have : b = k := by simpa using hb
      subst this
      exact e ▸ ha)⟩
theorem addK_mem {kk : List (List Int)} {k x : List Int} (h : x ∈ addK kk k) : x ∈ kk ∨ x = k := by
  unfold addK at h
  split at h
  · exact .inl h
  · rcases List.mem_append.mp h with h | h
    · exact .inl h
    · exact .inr (by simpa using h)
theorem addK_len {kk : List (List Int)} {k : List Int} : (addK kk k).length ≤ kk.length + 1 := by
  unfold addK
  split
  · omega
  · simp
theorem ed_len_tupI {C : Ctx} {S : DS} {M M1 : Mem} {e : Expr} {m : List Int} {pos p2 : Pos} (h : ED C S M e (tupI m) M1) (hm : C.mg "len" = none) (hg : ∀ p, (C.env p).kindOf "len" = some .globalImplicit := by intro _; rfl) (he : ∀ p, starEach [e] (C.env p) = (false, eval e (C.env p)) :: starEach [] (C.env p) := by intro _; rfl) :
    ED C S M (.Call (.Name "len" p2) [e] [] pos) (dInt (m.length : Nat)) M1 := (ed_len_tup h hm hg he).is (by rw [intsD_len])
theorem ed_ixI {C : Ctx} {S : DS} {M M1 M2 : Mem} {a b : Expr} {m : List Int} {i : Int} {x : Int} {pos : Pos} (h1 : ED C S M a (tupI m) M1) (h2 : ED C S M1 b (dInt i) M2) (h0 : 0 ≤ i) (hx : m[i.toNat]? = some x) (hs : PlainIx b := by intro _ _; rfl) : ED C S M (.Subscript a b pos) (dInt x) M2 := by
  obtain ⟨n, rfl⟩ := Int.eq_ofNat_of_zero_le h0
  exact ed_ixT h1 h2 (atI_ints hx) hs
/-! ### what stands in a slot may be forgotten -/
def Ge : DS → DS → Prop
  | [], [] => True
  | s :: ss, t :: tt => (s = t ∨ t = none) ∧ Ge ss tt
  | _, _ => False
theorem Ge.refl : ∀ S : DS, Ge S S
  | [] => trivial
  | _ :: S => ⟨.inl rfl, Ge.refl S⟩
theorem Ge.len : ∀ {S T : DS}, Ge S T → T.length = S.length
  | [], [], _ => rfl
  | _ :: _, _ :: _, h => by simp [Ge.len h.2]
  | [], _ :: _, h => h.elim
  | _ :: _, [], h => h.elim
theorem Ge.get : ∀ {S T : DS} {i : Nat} {d : D}, Ge S T → T[i]? = some (some d) → S[i]? = some (some d)
  | [], [], _, _, _, e => by simp at e
  | s :: ss, t :: tt, i, d, h, e => by
    cases i with
    | zero =>
      simp at e
      subst e
      rcases h.1 with q | q
      · simp [q]
      · cases q
    | succ i =>
      simp at e ⊢
      exact Ge.get h.2 e
  | [], _ :: _, _, _, h, _ => h.elim
  | _ :: _, [], _, _, h, _ => h.elim
theorem RepS.ge {K : PySem.W.Frag} {w : Wd} {S T : DS} {σ : L2.St} (h : RepS K w S σ) (g : Ge S T) : RepS K w T σ := ⟨by rw [g.len]; exact h.len, fun i d e => h.get i d (g.get e)⟩
section
variable {C : Ctx} {S S1 S2 T : DS} {M M1 M2 : Mem} {sts body rest : List Stmt} {st : Stmt} {o : Out} {tg e : Expr} {items : List D} {pos : Pos} {PM : Mem → Prop}
theorem sds_ge (h : SDs C T M sts o) (g : Ge S T := by repeat (first | exact trivial | refine ⟨.inl rfl, ?_⟩ | refine ⟨.inr rfl, ?_⟩)) : SDs C S M sts o := fun W E w σ H hs hr q => h W E w σ H hs (hr.ge g) q
theorem SDs.nxge (h : SDs C S M sts (.nx S2 M2)) (g : Ge S2 T) : SDs C S M sts (.nx T M2) := fun W E w σ H hs hr q => h W E w σ H hs hr fun w' H' σ' l s r => q w' H' σ' l s (r.ge g)
theorem SDs.ctge (h : SDs C S M sts (.ct S2 M2)) (g : Ge S2 T) : SDs C S M sts (.ct T M2) := fun W E w σ H hs hr q => h W E w σ H hs hr fun w' H' σ' l s r => q w' H' σ' l s (r.ge g)
theorem SD.nxge (h : SD C S M st (.nx S2 M2)) (g : Ge S2 T := by repeat (first | exact trivial | refine ⟨.inl rfl, ?_⟩ | refine ⟨.inr rfl, ?_⟩)) : SD C S M st (.nx T M2) := fun W E w σ H hs hr q => h W E w σ H hs hr fun w' H' σ' l s r => q w' H' σ' l s (r.ge g)
/-- for, the state known ahead of each turn -/
theorem sd_forS (hi : ID C S M tg e items PM M1) (hc : C.calm = true) (Ss : Nat → DS) (Ms : Nat → Mem) (hS : Ss 0 = S) (hM : Ms 0 = M1) (hpm : ∀ i, i ≤ items.length → PM (Ms i))
    (hs : ∀ (i : Nat) (d : D), items[i]? = some d → ∃ S1 vs S2, GD C (Ss i) tg d S1 vs ∧ (SDs C S1 (Ms i) body (.nx S2 (Ms (i + 1))) ∨ SDs C S1 (Ms i) body (.ct S2 (Ms (i + 1)))) ∧ Ge S2 (Ss (i + 1))) (hf : ∀ p, ∀ x, foldedSetIterable e (C.env p) x = pure x := by intro _ _; rfl) :
    SD C S M (.For tg e body [] pos) (.nx (Ss items.length) (Ms items.length)) := by
  obtain ⟨S', M', ⟨rfl, rfl⟩, c⟩ := chain_of (step := Turn1 C tg body items PM) (n := items.length) (Inv := fun i S M => S = Ss i ∧ M = Ms i) (fun i S M hlt hv => by
    obtain ⟨rfl, rfl⟩ := hv
    refine ⟨Ss (i + 1), Ms (i + 1), ⟨hpm i (Nat.le_of_lt hlt), fun d hd => ?_⟩, rfl, rfl⟩
    obtain ⟨S1, vs, S2, hg, hb, hge⟩ := hs i d hd
    exact ⟨S1, vs, hg, hb.elim (fun h => .inl (h.nxge hge)) fun h => .inr (h.ctge hge)⟩) items.length 0 S M1 (by omega) ⟨hS.symm, hM.symm⟩
  exact sd_for_chain hi hc c (hpm _ (Nat.le_refl _)) hf
/-- .. the same state ahead of each turn -/
theorem sd_forC (hi : ID C S M tg e items PM M1) (hc : C.calm = true) (hpm : PM M1) (hs : ∀ (i : Nat) (d : D), items[i]? = some d → ∃ S1 vs S2, GD C S tg d S1 vs ∧ (SDs C S1 M1 body (.nx S2 M1) ∨ SDs C S1 M1 body (.ct S2 M1)) ∧ Ge S2 S) (hf : ∀ p, ∀ x, foldedSetIterable e (C.env p) x = pure x := by intro _ _; rfl) :
    SD C S M (.For tg e body [] pos) (.nx S M1) := sd_forS hi hc (fun _ => S) (fun _ => M1) rfl rfl (fun _ _ => hpm) hs hf
end
theorem exs_cons {C : Ctx} {S S1 : DS} {M M1 : Mem} {st : Stmt} {rest : List Stmt} {P : Out → Prop} (h1 : SD C S M st (.nx S1 M1)) (h2 : ∃ o, P o ∧ SDs C S1 M1 rest o) : ∃ o, P o ∧ SDs C S M (st :: rest) o := by
  obtain ⟨o, p, h⟩ := h2
  exact ⟨o, p, sds_cons h1 h⟩
theorem exs_ge {C : Ctx} {S T : DS} {M : Mem} {sts : List Stmt} {P : Out → Prop} (h2 : ∃ o, P o ∧ SDs C T M sts o) (g : Ge S T := by repeat (first | exact trivial | refine ⟨.inl rfl, ?_⟩ | refine ⟨.inr rfl, ?_⟩)) : ∃ o, P o ∧ SDs C S M sts o := by
  obtain ⟨o, p, h⟩ := h2
  exact ⟨o, p, sds_ge h g⟩
theorem fit_tt {M J : Mem} : OutFit M (.rt (.v (.bl true)) (M ++ J)) (.ok (.v (.bl true)) M) := fit_rt J (by unfold D.under; trivial)
end DL
set_option maxHeartbeats 2000000
namespace DL
open PySem PySem.Spec PyProof.Rows L2
section
variable {C : Ctx} {S S' S1 : DS} {M M1 M2 M3 M' : Mem} {a b e o ix value : Expr} {es : List Expr} {ds ds1 ds2 : List D} {d dv : D} {pos p p2 p' : Pos}
theorem ad_star (h1 : ED C S M e d M1) (hv : LV M1 d ds1) (h2 : AD C S M1 es ds M2) (hs : ∀ q, starEach (.Starred e p :: es) (C.env q) = (true, eval e (C.env q)) :: starEach es (C.env q) := by intro _; rfl) : AD C S M (.Starred e p :: es) (ds1 ++ ds) M2 :=
  AD.of (t := StX.tStar C.K (wE C e) (wA C es)) (fun X hX => by
    have z : starEach (.Starred e p :: es) X.env = (true, eval e X.env) :: starEach es X.env → PA X (.Starred e p :: es) (StX.tStar X.K (wE C e) (wA C es)) := fun hs => StX.pa_star (pe_w hX) (pa_w hX) hs
    cases hX with | mk q => exact z (hs q)) fun w σ H hs hp Q q =>
    h1 w σ H hs hp _ fun w1 H1 y l1 s1 r1 => by
      obtain ⟨p, vs, rfl, st, rs⟩ := s1.lv hv r1
      exact ⟨p, vs, rfl, .inr st, h2 w1 σ H1 s1 (hp.go l1) _ fun w2 H2 ys l2 s2 r2 => q w2 H2 _ (l1.trans l2) s2 ((rs.go l2).append r2)⟩
theorem sd_setIx {n : Nat} {i : Int} {j : Nat} (h : ED C S M value dv M1) (ho : ED C S M1 o (.res n) M2) (hi : ED C S M2 ix (dInt i) M3) (hM : M3[n]? = some (.lst ds)) (hj : ixN ds.length i = some j)
    (hs : ∀ q, swapsWithSole [.Subscript o ix p'] value pos.line (C.env q) = pure false := by intro _; rfl) (hw : ∀ q, swappedStores [.Subscript o ix p'] value (C.env q) = pure none := by intro _; rfl)
    (h1 : ∀ q, (assignEach [.Subscript o ix p'] (C.env q)).map (·.2) = [assign (.Subscript o ix p') (C.env q)] := by intro _; rfl)
    (ha : ∀ q v, assign (.Subscript o ix p') (C.env q) v = (do
      let ov ← holding [v] (eval o (C.env q))
      let iv ← holding [v, ov] (eval ix (C.env q))
      standAt p'
      holding [v, ov, iv] (setItem ov iv v)
      release [v, ov, iv] []) := by intro _ _; rfl) : SD C S M (.Assign [.Subscript o ix p'] value pos) (.nx S (M3.set n (.lst (ds.set j dv)))) :=
  SD.of (t := fun _ => tAsg (wE C value) (gSub (wE C o) (wE C ix) rSetL)) (fun W X hX ow => by
    have po := pe_w (e := o) hX
    have pi := pe_w (e := ix) hX
    have pv := pe_w (e := value) hX
    cases hX with | mk q => exact ps_asg pv (pg_sub po pi set_list (ha q)) (hs q) (hw q) (h1 q)) fun W E w σ H hsat hr q =>
    h w σ H hsat hr _ fun w1 H1 v l1 s1 r1 => ho w1 σ H1 s1 (hr.go l1) _ fun w2 H2 x l2 s2 r2 => hi w2 σ H2 s2 (hr.go (l1.trans l2)) _ fun w3 H3 y l3 s3 r3 => by
      obtain ⟨p, vs, hp, rfl, e, rs⟩ := s3.resL (r2.go l3) hM
      rw [rep_v] at r3
      subst r3
      refine ⟨p, vs, i, j, rfl, rfl, e, by rw [rs.length]; exact hj, ?_⟩
      have g := ((l1.trans l2).trans l3).trans (Go.chg (o := .lst (vs.set j v)) hp)
      exact q w3 _ σ g (s3.chg hp ⟨_, rfl, rs.set j (r1.go (l2.trans l3))⟩) (hr.go g)
end
theorem cut_take (m : List Int) (k : Nat) : DL.cutD (intsD m) none (some (k : Int)) = intsD (m.take k) := by
  unfold DL.cutD intsD
  rw [HT.sIx_nat, HT.sIx_none]
  simp only [List.length_map, List.drop_zero, Nat.sub_zero, ← List.map_take]
  congr 1
  by_cases h : k ≤ m.length
  · rw [Nat.min_eq_left h]
  · rw [Nat.min_eq_right (by omega), List.take_of_length_le (Nat.le_refl _), List.take_of_length_le (by omega)]
theorem cut_drop (m : List Int) (k : Nat) : DL.cutD (intsD m) (some (k : Int)) none = intsD (m.drop k) := by
  unfold DL.cutD intsD
  rw [HT.sIx_nat, HT.sIx_none]
  simp only [List.length_map, ← List.map_drop, ← List.map_take]
  congr 1
  by_cases h : k ≤ m.length
  · rw [Nat.min_eq_left h, List.take_of_length_le (by simp)]
  · rw [Nat.min_eq_right (by omega), List.drop_of_length_le (Nat.le_refl _), List.drop_of_length_le (by omega)]
    simp
end DL
namespace DL
open L2
theorem ixN_at {n j : Nat} (hj : j < n) : ixN n (j : Int) = some j := by
  unfold ixN
  rw [if_pos (by omega), if_pos (by omega)]
  simp
end DL
set_option maxHeartbeats 2000000
namespace DL
open PySem PySem.Spec PyProof.Rows L2
section
variable {C : Ctx} {S S' S1 : DS} {M M1 M2 M' : Mem} {tg a b e elt : Expr} {es ifs : List Expr} {items ds ds2 : List D} {d da db : D} {pos p2 : Pos} {PM : Mem → Prop} {scope : Scope} {own : List (Str × Nat)} {k : Bool}
theorem ID.is {items' : List D} (h : ID C S M tg e items PM M') (q : items = items') : ID C S M tg e items' PM M' := q ▸ h
theorem lc_turns {α : Type} {xs : List α} {enc : α → D} {p : α → Bool} {g : α → D} {M1 : Mem} (ht : ∀ x, x ∈ xs → ∃ S1, GD (C.blk scope) (wipeD S (ownIx own)) tg (enc x) S1 (ownIx own) ∧ TsD (C.blk scope) S1 M1 ifs (p x) M1 ∧ (p x = true → ED (C.blk scope) S1 M1 elt (g x) M1)) :
    ∀ (i : Nat) (d : D), (xs.map enc)[i]? = some d → LcTurn C scope (ownIx own) S tg elt ifs d (match xs[i]? with | some x => if p x then [g x] else [] | none => []) M1 M1 := by
  intro i d hd
  rw [List.getElem?_map] at hd
  cases hx : xs[i]? with
  | none => rw [hx] at hd; cases hd
  | some x =>
    rw [hx] at hd
    cases hd
    obtain ⟨S1, hg, hb, he⟩ := ht x (List.mem_of_getElem? hx)
    refine ⟨S1, hg, ?_⟩
    cases hp : p x with
    | false => rw [hp] at hb; exact .inl ⟨hb, by simp [hp]⟩
    | true => rw [hp] at hb; exact .inr ⟨g x, M1, hb, he hp, by simp [hp]⟩
/-- [elt for tg in e if ..], to be changed later -/
theorem ed_lcR {α : Type} (xs : List α) (enc : α → D) (p : α → Bool) (g : α → D) (hc : C.calm = true) (hN : C.N.Nodup) (ok : ∀ p, BlkOk C.N (C.env p).scope scope own) (hi : ID C S M tg e (xs.map enc) PM M1) (hpm : PM M1) (hsz : xs.length ≤ 100000)
    (ht : ∀ x, x ∈ xs → ∃ S1, GD (C.blk scope) (wipeD S (ownIx own)) tg (enc x) S1 (ownIx own) ∧ TsD (C.blk scope) S1 M1 ifs (p x) M1 ∧ (p x = true → ED (C.blk scope) S1 M1 elt (g x) M1)) (hf : ∀ p, ∀ x, foldedSetIterable e (C.env p) x = pure x := by intro _ _; rfl) :
    ED C S M (.ListComp elt [⟨tg, e, ifs, 0⟩] scope pos) (.res M1.length) (M1 ++ [.lst ((xs.filter p).map g)]) := by
  rw [← lc_out (items := xs.map enc) (xs := xs) (enc := enc) (p := p) (g := g) rfl]
  exact ed_lcR0 hc hN ok hi _ (fun _ => M1) rfl (fun _ _ => hpm) (by simpa using hsz) (lc_turns ht) hf
end
end DL
namespace KS
open PySem PySem.Spec PyProof.Rows L2 DL
def cellI (xs : List Int) (k : Int) : Int := xs.getD k.toNat 0
def sCell : Spc := fun ds M r => ∃ xs k, ds = [.lst (intsD xs), dInt k] ∧ 0 ≤ k ∧ r = .ok (dInt (cellI xs k)) M
def sUnlike0 : Spc := fun ds M r => ∃ a b : List Int, ds = [tupI a, tupI b] ∧ a.length = b.length ∧ r = .ok (.v .non) M
def joinI (a b : List Int) : List Int := List.zipWith max a b
def sJoined0 : Spc := fun ds M r => ∃ a b : List Int, ds = [tupI a, tupI b] ∧ a.length = b.length ∧ a.length ≤ 1000 ∧ r = .ok (tupI (joinI a b)) M
def sSeen : Spc := fun ds M r => ∃ (m : List Int) (k n : Int) (i : Nat) (x : Int), ds = [tupI m, dInt k, dInt n] ∧ k = (i : Int) ∧ m[i]? = some x ∧ r = .ok (.v (.bl (decide (n ≤ x)))) M
/-- a row that the mark m has not seen -/
def unseenB (m : List Int) : List Int → Bool
  | k :: n :: _ => !decide (n ≤ m.getD k.toNat 0)
  | _ => false
theorem unseenB_of {m : List Int} {k : Nat} {n v y : Int} (h : m[k]? = some y) : unseenB m [(k : Int), n, v] = !decide (n ≤ y) := by
  have : m.getD k 0 = y := by rw [List.getD_eq_getElem?_getD, h]; rfl
  simp only [unseenB, Int.toNat_natCast, this]
/-- rows of keepers of the mark m -/
def RowsOf (m : List Int) (L : List (List Int)) : Prop := ∀ x, x ∈ L → ∃ (k : Nat) (n v y : Int), x = [(k : Int), n, v] ∧ m[k]? = some y
theorem RowsOf.ne {m : List Int} {L : List (List Int)} (h : RowsOf m L) : ∀ r ∈ L, r ≠ [] := fun r hr => by
  obtain ⟨_, _, _, _, rfl, _⟩ := h r hr
  simp
theorem RowsOf.filter {m : List Int} {L : List (List Int)} {p : List Int → Bool} (h : RowsOf m L) : RowsOf m (L.filter p) := fun x hx => h x (List.mem_filter.mp hx).1
theorem RowsOf.len {m m' : List Int} {L : List (List Int)} (h : RowsOf m L) (hl : m.length = m'.length) : RowsOf m' L := fun x hx => by
  obtain ⟨k, n, v, y, e, hy⟩ := h x hx
  have hk : k < m'.length := by rw [← hl]; exact (List.getElem?_eq_some_iff.mp hy).1
  exact ⟨k, n, v, m'[k], e, List.getElem?_eq_getElem hk⟩
def sUnseen : Spc := fun ds M r => ∃ (d : D) (L : List (List Int)) (m : List Int), ds = [d, tupI m] ∧ LV M d (rowsD L) ∧ L.length ≤ 100000 ∧ RowsOf m L ∧ r = .ok (.res M.length) (M ++ [.lst (rowsD (L.filter (unseenB m)))])
def sDropped : Spc := fun ds M r => ∃ (a : List Int) (d : D) (L : List (List Int)) (m : List Int), ds = [.tup [tupI a, d], tupI m] ∧ LV M d (rowsD L) ∧ L.length ≤ 100000 ∧ RowsOf m L ∧ a.length = m.length ∧ a.length ≤ 1000 ∧
  r = .ok (.tup [tupI (joinI a m), .res M.length]) (M ++ [.lst (rowsD (L.filter (unseenB m)))])
def valI (c : Int) : Int := c % (2 * 10 ^ 60 - 1) - (10 ^ 60 - 1)
def sVal : Spc := fun ds M r => ∃ c : Int, ds = [dInt c] ∧ r = .ok (dInt (valI c)) M
def mostI (c : Int) : Int := if c / 9 % 2 = 0 then 5 else 10 ^ 6
theorem mostI_pos (c : Int) : 0 < mostI c := by
  unfold mostI
  split <;> decide
theorem most_at (c : Int) : atI [dInt 5, dInt (10 ^ Int.toNat 6)] (c / 9 % 2) = some (dInt (mostI c)) := by
  have h : c / 9 % 2 = 0 ∨ c / 9 % 2 = 1 := by omega
  unfold mostI
  rcases h with h | h <;> rw [h] <;> rfl
def markI (s : List Int) (f n : Int) : List Int := (List.range n.toNat).map fun (k : Nat) => cellI s (f + k) % mostI (cellI s 0)
theorem markI_len (s : List Int) (f n : Int) : (markI s f n).length = n.toNat := by simp [markI]
theorem markI_small {s : List Int} {f n : Int} : ∀ x ∈ markI s f n, x < 1073741824 := fun x hx => by
  unfold markI at hx
  obtain ⟨k, _, rfl⟩ := List.mem_map.mp hx
  have h := Int.emod_lt_of_pos (cellI s (f + k)) (mostI_pos (cellI s 0))
  have : mostI (cellI s 0) ≤ 10 ^ 6 := by
    unfold mostI
    split <;> decide
  omega
def sMark : Spc := fun ds M r => ∃ (s : List Int) (f n : Int), ds = [.lst (intsD s), dInt f, dInt n] ∧ 0 ≤ f ∧ 0 ≤ n ∧ n ≤ 1000 ∧ r = .ok (tupI (markI s f n)) M
/-! ### the rows of a shelf -/
def cutI (s : List Int) (f u : Int) : List Int := (s.drop (HT.sIx s.length 0 (some f))).take (HT.sIx s.length s.length (some u) - HT.sIx s.length 0 (some f))
theorem cut_ints (s : List Int) (f u : Int) : DL.cutD (intsD s) (some f) (some u) = intsD (cutI s f u) := by
  unfold DL.cutD cutI
  rw [intsD_len]
  unfold intsD
  rw [List.map_take, List.map_drop]
theorem cutI_len (s : List Int) (f : Int) (n : Nat) : (cutI s f (f + (n : Int))).length ≤ n := by
  unfold cutI
  rw [List.length_take]
  have h1 : HT.sIx s.length s.length (some (f + n)) - HT.sIx s.length 0 (some f) ≤ n := by
    show (if f + (n : Int) < 0 then (f + (n : Int) + (s.length : Int)).toNat else min (f + (n : Int)).toNat s.length) - (if f < 0 then (f + (s.length : Int)).toNat else min f.toNat s.length) ≤ n
    by_cases h : f < 0
    · rw [if_pos h]
      by_cases h2 : f + (n : Int) < 0
      · rw [if_pos h2]; omega
      · rw [if_neg h2]; omega
    · rw [if_neg h]
      rw [if_neg (by omega)]; omega
  omega
theorem ints_get {xs : List Int} {i : Nat} {d : D} (h : (intsD xs)[i]? = some d) : ∃ c, xs[i]? = some c ∧ d = dInt c := by
  unfold intsD at h
  rw [List.getElem?_map] at h
  cases q : xs[i]? with
  | none => rw [q] at h; cases h
  | some c =>
    rw [q] at h
    exact ⟨c, rfl, by simpa using h.symm⟩
def keyStep (m : List Int) (kk : List (List Int)) (c : Int) : List (List Int) := match m[(c % ((m.length : Nat) : Int)).toNat]? with
  | some x => if 0 < x then addK kk [c % ((m.length : Nat) : Int), 1 + c / ((m.length : Nat) : Int) % x] else kk
  | none => kk
def keysI (m : List Int) (cs : List Int) : List (List Int) := cs.foldl (keyStep m) []
theorem keysI_step {m cs : List Int} {i : Nat} {c x0 : Int} (hc : cs[i]? = some c) (hx : m[(c % ((m.length : Nat) : Int)).toNat]? = some x0) :
    keysI m (cs.take (i + 1)) = if 0 < x0 then addK (keysI m (cs.take i)) [c % ((m.length : Nat) : Int), 1 + c / ((m.length : Nat) : Int) % x0] else keysI m (cs.take i) := by
  unfold keysI
  rw [List.take_succ, hc, List.foldl_append]
  show keyStep m _ c = _
  unfold keyStep
  rw [hx]
theorem keysI_all {m : List Int} (Pp : List Int → Prop) (h : ∀ c x, m[(c % ((m.length : Nat) : Int)).toNat]? = some x → 0 < x → Pp [c % ((m.length : Nat) : Int), 1 + c / ((m.length : Nat) : Int) % x]) (cs : List Int) : ∀ x ∈ keysI m cs, Pp x := by
  have key : ∀ (cs : List Int) (kk : List (List Int)), (∀ x ∈ kk, Pp x) → ∀ x ∈ cs.foldl (keyStep m) kk, Pp x := by
    intro cs
    induction cs with
    | nil => intro kk h x hx; exact h x hx
    | cons c cs ih =>
      intro kk hk
      refine ih _ fun x hx => ?_
      unfold keyStep at hx
      split at hx
      · rename_i y hy
        split at hx
        · rename_i hpos
          rcases addK_mem hx with hx | rfl
          · exact hk x hx
          · exact h c y hy hpos
        · exact hk x hx
      · exact hk x hx
  exact key cs [] (fun x hx => nomatch hx)
theorem keysI_pair {m cs : List Int} {x : List Int} (h : x ∈ keysI m cs) : ∃ a b, x = [a, b] := keysI_all (fun x => ∃ a b, x = [a, b]) (fun _ _ _ _ => ⟨_, _, rfl⟩) cs x h
theorem keysI_ne {m cs : List Int} {x : List Int} (h : x ∈ keysI m cs) : x ≠ [] := by
  obtain ⟨a, b, rfl⟩ := keysI_pair h
  simp
theorem keysI_len (m cs : List Int) : (keysI m cs).length ≤ cs.length := by
  have key : ∀ (cs : List Int) (kk : List (List Int)), (cs.foldl (keyStep m) kk).length ≤ kk.length + cs.length := by
    intro cs
    induction cs with
    | nil => intro kk; simp
    | cons c cs ih =>
      intro kk
      have h1 : (keyStep m kk c).length ≤ kk.length + 1 := by
        unfold keyStep
        split
        · split
          · exact addK_len
          · omega
        · omega
      have := ih (keyStep m kk c)
      simp only [List.foldl_cons, List.length_cons]
      omega
  simpa [keysI] using key cs []
theorem keysI_nodup (m cs : List Int) : (keysI m cs).Nodup := by
  have key : ∀ (cs : List Int) (kk : List (List Int)), kk.Nodup → (cs.foldl (keyStep m) kk).Nodup := by
    intro cs
    induction cs with
    | nil => intro kk h; exact h
    | cons c cs ih =>
      intro kk h
      refine ih _ ?_
      unfold keyStep
      split
      · split
        · exact addK_nodup h
        · exact h
      · exact h
  exact key cs [] List.nodup_nil
def rowI : List Int → List Int
  | [a, b] => [a, b, valI (48271 * (a + 9 * b) + b % 7)]
  | _ => []
def rowsI (n : Nat) (s : List Int) (f : Int) (m : List Int) : List (List Int) := (sortI (keysI m (cutI s f (f + (n : Int))))).map rowI
def sRows (n : Nat) : Spc := fun ds M r => ∃ (s : List Int) (f : Int) (m : List Int), ds = [.lst (intsD s), dInt f, tupI m] ∧ 0 ≤ f ∧ 1 ≤ m.length ∧ m.length ≤ 9 ∧ (∀ x ∈ m, x < 1073741824) ∧ r = .ok (.lst (rowsD (rowsI n s f m))) M
theorem rowsI_len (n : Nat) (s : List Int) (f : Int) (m : List Int) : (rowsI n s f m).length ≤ n := by
  unfold rowsI
  rw [List.length_map, (sortI_perm _).length_eq]
  exact Nat.le_trans (keysI_len _ _) (cutI_len _ _ _)
/-- a row of the rows: a keeper's, its number within the mark -/
theorem rowsI_mem {n : Nat} {s : List Int} {f : Int} {m : List Int} {x : List Int} (hm : 1 ≤ m.length) (h : x ∈ rowsI n s f m) : ∃ (k : Nat) (b v y : Int), x = [(k : Int), b, v] ∧ m[k]? = some y ∧ 1 ≤ b ∧ b ≤ y := by
  unfold rowsI at h
  obtain ⟨z, hz, rfl⟩ := List.mem_map.mp h
  have hz' := (sortI_perm _).mem_iff.mp hz
  have key := keysI_all (m := m) (fun z => ∃ (k : Nat) (b y : Int), z = [(k : Int), b] ∧ m[k]? = some y ∧ 1 ≤ b ∧ b ≤ y) (fun c x hx hpos => by
    have h0 := Int.emod_nonneg c (b := ((m.length : Nat) : Int)) (by omega)
    refine ⟨(c % ((m.length : Nat) : Int)).toNat, _, x, by rw [Int.toNat_of_nonneg h0], hx, ?_, ?_⟩
    · have := Int.emod_nonneg (c / ((m.length : Nat) : Int)) (b := x) (by omega)
      omega
    · have := Int.emod_lt_of_pos (c / ((m.length : Nat) : Int)) hpos
      omega) _ z hz'
  obtain ⟨k, b, y, rfl, hy, h1, h2⟩ := key
  exact ⟨k, b, _, y, rfl, hy, h1, h2⟩
theorem rowsI_of {n : Nat} {s : List Int} {f : Int} {m : List Int} (hm : 1 ≤ m.length) : RowsOf m (rowsI n s f m) := fun x hx => by
  obtain ⟨k, b, v, y, e, hy, _⟩ := rowsI_mem hm hx
  exact ⟨k, b, v, y, e, hy⟩
/-- the law's own look at a shelf -/
def sShelf : Spc := fun ds M r => ∃ (a : List Int) (d1 d2 : D) (L : List (List Int)), ds = [.tup [tupI a, d1], tupI a, d2] ∧ LV M d1 (rowsD L) ∧ LV M d2 (rowsD L) ∧ L.length ≤ 1000 ∧ r = .ok (.v (.bl true)) M
end KS
namespace KS
open PySem PySem.Spec PyProof.Rows L2 DL
def sLaw : Spc := fun ds M r => ∃ s : List Int, ds = [.lst (intsD s)] ∧ r = .ok (.v (.bl true)) M
theorem getD_of {m : List Int} {k : Nat} {y : Int} (h : m[k]? = some y) : m.getD k 0 = y := by rw [List.getD_eq_getElem?_getD, h]; rfl
theorem get_getD {m : List Int} {k : Nat} (h : k < m.length) : m[k]? = some (m.getD k 0) := by simp [h]
theorem due_join {a b : List Int} {n : Nat} (ha : a.length = n) (hb : b.length = n) : (List.range n).map (fun (k : Nat) => dInt (max (a.getD k 0) (b.getD k 0))) = intsD (joinI a b) := by
  apply List.ext_getElem?
  intro i
  unfold intsD joinI
  rw [List.getElem?_map, List.getElem?_map, List.getElem?_zipWith]
  by_cases hi : i < n
  · have h1 : i < a.length := by omega
    have h2 : i < b.length := by omega
    simp [hi, h1, h2]
  · have h1 : ¬ i < a.length := by omega
    simp [hi, h1]
theorem joinI_len {a b : List Int} (h : a.length = b.length) : (joinI a b).length = a.length := by unfold joinI; rw [List.length_zipWith]; omega
theorem ints_zero (n : Nat) : (List.range n).map (fun _ => dInt 0) = intsD (List.replicate n 0) := by
  unfold intsD
  rw [List.map_const', List.length_range, List.map_replicate]
/-- the hand's mark -/
def handI (s m : List Int) (n : Int) : List Int := if cellI s 1 % 3 = 2 then List.replicate n.toNat 0 else if cellI s 1 % 3 = 1 then m else markI s 14 n
theorem handI_len {s m : List Int} {n : Int} (h : m.length = n.toNat) : (handI s m n).length = n.toNat := by
  unfold handI
  split
  · simp
  · split
    · exact h
    · exact markI_len _ _ _
/-- the rows that the law itself leaves -/
def leftB (h : List Int) : List Int → Bool
  | k :: n :: _ => decide (h.getD k.toNat 0 < n)
  | _ => false
theorem left_eq {h : List Int} {L : List (List Int)} : RowsOf h L → L.filter (leftB h) = L.filter (unseenB h) := fun hr => List.filter_congr fun r hm => by
  obtain ⟨k, n, v, y, rfl, hy⟩ := hr r hm
  rw [unseenB_of hy]
  simp only [leftB, Int.toNat_natCast, getD_of hy]
  rw [Bool.eq_iff_iff]
  simp
end KS
namespace KS
open PySem PySem.Spec PyProof.Rows L2 DL
def sWith : Spc := fun ds M r => ∃ (m : List Int) (k : Nat) (n : Int), ds = [tupI m, dInt k, dInt n] ∧ k < m.length ∧ m.length ≤ 1000 ∧ r = .ok (tupI (m.set k n)) M
def sPut : Spc := fun ds M r => ∃ (a : List Int) (d : D) (L : List (List Int)) (m : List Int) (k : Nat) (v y : Int), ds = [.tup [tupI a, d], dInt k, dInt v, tupI m] ∧ LV M d (rowsD L) ∧ L.length ≤ 1000 ∧ RowsOf m L ∧ a.length = m.length ∧ a.length ≤ 1000 ∧ a[k]? = some y ∧
  r = .ok (.tup [tupI ((joinI a m).set k (y + 1)), .lst (rowsD (sortI (L.filter (unseenB m) ++ [[(k : Int), y + 1, v]])))]) M
theorem shelf_fz (m : List Int) (L : List (List Int)) : D.fz (.tup [tupI m, .lst (rowsD L)]) = true := by
  unfold D.fz Ds.fz
  rw [tupI_fz]
  unfold Ds.fz
  rw [lstR_fz]
  unfold Ds.fz
  rfl
end KS
set_option maxHeartbeats 2000000
/-! sets of tuples of ints: what a set holds is found; s & t; sorted(s) of any ints -/
namespace TSx
open L2 PySem PySem.Spec PyProof.Rows
theorem dummy_none (m : Nat) : ∀ (n : Nat) (q : SetTable.Probe), q.dummy = none → (nth m q n).dummy = none
  | 0, _, e => e
  | n + 1, q, e => dummy_none m n (adv m q) (by unfold adv; split <;> exact e)
/-- where the hash g stands after n steps -/
abbrev stn (t : SetTable) (g : Int) (n : Nat) : SetTable.Probe := nth t.mask (runAt t.mask (SetTable.bits g % (t.mask + 1)) (SetTable.bits g)) n
theorem stn_add (t : SetTable) (g : Int) (c n : Nat) : nth t.mask (stn t g c) n = stn t g (c + n) := (nth_add t.mask c _ n).symm
section
variable {P : Program} {w : World} {A : Around} {E : Value → Shared → Prop} {s : Shared} {a : Addr} {L : List (Addr × List Int)} {es : Array (Int × Value)} {ep : Nat} {t : SetTable}
theorem find_run (R : SetTR P w s.heap a L es ep t) {x : Addr} {k : List Int} (hx : IsT P w s.heap k x) (hu : A.units < cLine) {K : Nat} (hend : way t.mask (thash P w k) K ∉ t.place.toList) (hbusy : ∀ c, c < K → way t.mask (thash P w k) c ∈ t.place.toList)
    (hKf : K < 10 * SetTable.turns t.mask) {Q : SetFound → Shared → Prop} (yes : ∀ i, k ∈ L.map (·.2) → Q (.there (some i)) s) (no : ∀ j, k ∉ L.map (·.2) → Q (.free j false) s) :
    ∀ (n c : Nat) (st : Option SetTable.Probe), c ≤ K → K < n + c → st.getD (t.probeStart (thash P w k)) = stn t (thash P w k) c →
      (∀ (i : Nat) (q : Addr × List Int), L[i]? = some q → q.2 = k → ∃ c', c ≤ c' ∧ c' < K ∧ t.place.toList[i]? = some (way t.mask (thash P w k) c')) → wpAny (model P w) A (setSearchFrom a (.ref x) (thash P w k) false n st) Q E s := by
  obtain ⟨ob, hob, _, hdat⟩ := R.ob
  have hst : ∀ {Q' : (Array (Int × Value) × Nat × SetTable) → Shared → Prop}, Q' (es, ep, t) s → wpAny (model P w) A (setState a) Q' E s := fun h => wpAny_setState_of hob hdat R.fits h
  intro n
  induction n with
  | zero => intro c st h1 h2; omega
  | succ n ih =>
    intro c st hcK hn hstand hall
    rw [setSearchFrom_succ]
    refine wpAny_bind (hst ?_)
    dsimp only
    rw [if_neg R.gw]
    try refine wpAny_bind (wpAny_pure ?_)
    have hway : ∀ q, (nth t.mask (stn t (thash P w k) c) q).j = way t.mask (thash P w k) (c + q) := fun q => congrArg SetTable.Probe.j (stn_add t _ c q)
    have hfar : way t.mask (thash P w k) (c + (K - c)) = way t.mask (thash P w k) K := by rw [Nat.add_sub_cancel' hcK]
    rcases go_spec t R.tab.ris R.tab.dm (fun i => (es[i]?.map (·.1)).getD 0) (thash P w k) (10 * SetTable.turns t.mask) (K - c) (stn t (thash P w k) c) (dummy_none _ _ _ rfl) (by omega) (fun q hq => by rw [hway]; exact hbusy _ (by omega))
        (by rw [hway, hfar]; exact hend) with ⟨q, i, hq, hi, _, hfirst, hgo⟩ | ⟨hnone, hgo⟩
    · have hp : t.probe (fun i => (es[i]?.map (·.1)).getD 0) (thash P w k) (st.getD (t.probeStart (thash P w k))) = some (.candidate (way t.mask (thash P w k) (c + q)) i (stn t (thash P w k) (c + (q + 1)))) := by
        rw [hstand, ← hway, ← stn_add]
        exact hgo
      rw [hp]
      dsimp only
      rw [hway] at hi
      have hlen : i < L.length := by
        have h1 := (List.getElem?_eq_some_iff.mp hi).1
        have h2 := R.tab.sz
        rw [List.length_map] at h2
        rw [Array.length_toList] at h1
        omega
      obtain ⟨q0, hq0⟩ : ∃ q0, L[i]? = some q0 := ⟨_, List.getElem?_eq_getElem hlen⟩
      have hin := List.mem_of_getElem? hq0
      have main : wpAny (model P w) A (searchRest a (.ref x) (thash P w k) false n es t (way t.mask (thash P w k) (c + q)) i (stn t (thash P w k) (c + (q + 1)))) Q E s := by
        unfold searchRest
        rw [R.entry hq0]
        dsimp only
        refine wpAny_bind (wpAny_holding (wpAny_eqBool_tuple hu (R.tup q0 hin) hx (wpAny_bind (hst ?_))))
        dsimp only
        simp only [Bool.false_and, Bool.false_eq_true, if_false]
        try refine wpAny_bind (wpAny_pure ?_)
        rw [sameMem]
        dsimp only
        simp only [if_true, slot_live R.tab.ris hi, R.entry hq0]
        refine wpAny_bind (wpAny_isSame_ref_self (wpAny_bind (wpAny_pure ?_)))
        simp only [if_true]
        by_cases he : q0.2 = k
        · rw [if_pos (by simp [he])]
          exact wpAny_pure (yes i (List.mem_map.mpr ⟨q0, hin, he⟩))
        · rw [if_neg (by simp [he])]
          refine ih (c + (q + 1)) _ (by omega) (by omega) rfl fun i1 q1 h1 e1 => ?_
          obtain ⟨c', g1, g2, g3⟩ := hall i1 q1 h1 e1
          refine ⟨c', ?_, g2, g3⟩
          have ne : c' ≠ c + q := fun z => by
            rw [z] at g3
            have h2 := slot_live R.tab.ris g3
            rw [slot_live R.tab.ris hi] at h2
            injection h2 with h2
            subst h2
            rw [hq0] at h1
            cases h1
            exact he e1
          have nlt : ¬ c' < c + q := fun z => by
            refine hfirst (c' - c) i1 (by omega) (by rw [hway, Nat.add_sub_cancel' g1]; exact g3) ?_
            rw [R.entry h1]
            exact congrArg (thash P w) e1
          omega
      cases hled : t.led with
      | true =>
        simp only [Bool.not_true, Bool.false_eq_true, if_false]
        try refine wpAny_bind (wpAny_pure ?_)
        exact main
      | false =>
        simp only [Bool.not_false, if_true]
        refine wpAny_bind (seen_tup hx (fun y hy => ?_) ?_)
        · obtain ⟨e, he, rfl⟩ := List.mem_map.mp hy
          have hes : e ∈ es.toList := by
            have := (List.mem_filter.mp (by simpa using he : e ∈ es.toList.filter fun z => z.1 == thash P w k)).1
            exact this
          rw [R.rows] at hes
          obtain ⟨q2, hq2, rfl⟩ := List.mem_map.mp hes
          exact ⟨q2.2, q2.1, rfl, R.tup q2 hq2⟩
        · simp only [Bool.false_eq_true, if_false]
          try refine wpAny_bind (wpAny_pure ?_)
          exact main
    · have hp : t.probe (fun i => (es[i]?.map (·.1)).getD 0) (thash P w k) (st.getD (t.probeStart (thash P w k))) = some (.empty (way t.mask (thash P w k) K) none) := by
        rw [hstand, ← hfar, ← hway]
        exact hgo
      rw [hp]
      dsimp only
      refine wpAny_pure (no _ fun hm => ?_)
      obtain ⟨q0, h0, e0⟩ := List.mem_map.mp hm
      obtain ⟨i0, hi0⟩ := List.getElem?_of_mem h0
      obtain ⟨c', g1, g2, g3⟩ := hall i0 q0 hi0 e0
      refine hnone (c' - c) i0 (by omega) (by rw [hway, Nat.add_sub_cancel' g1]; exact g3) ?_
      rw [R.entry hi0]
      exact congrArg (thash P w) e0
/-- is the tuple in the set -/
theorem find_at (R : SetTR P w s.heap a L es ep t) {x : Addr} {k : List Int} (hx : IsT P w s.heap k x) (hu : A.units < cLine) {Q : Option Nat → Shared → Prop} (h : ∀ r : Option Nat, r.isSome = decide (k ∈ L.map (·.2)) → Q r s) :
    wpAny (model P w) A (setFind a (.ref x) (thash P w k)) Q E s := by
  obtain ⟨ob, hob, _, hdat⟩ := R.ob
  have hr := R.room
  obtain ⟨K, hK1, hK2, hK3⟩ := R.tab.first (by rw [List.length_map]; omega) (thash P w k)
  have hsmall : 10 * SetTable.turns t.mask ≤ 1420 := by
    unfold SetTable.turns
    rcases R.tab.mok with e | e | e <;> omega
  unfold setFind
  rw [show (100000 : Nat) = 99999 + 1 from rfl]
  unfold setFindIn
  refine wpAny_bind (wpAny_setState_of hob hdat R.fits ?_)
  dsimp only
  rw [if_neg (by simp [byScan, Value.scannable])]
  try refine wpAny_bind (wpAny_pure ?_)
  unfold setSearch
  refine wpAny_bind (find_run R hx hu hK2 hK3 hK1 (fun i hm => ?_) (fun j hm => ?_) 100000 0 none (Nat.zero_le _) (by omega) rfl fun i q hq e => ?_)
  · exact wpAny_pure (h (some i) (by simp only [Option.isSome_some]; exact (decide_eq_true hm).symm))
  · exact wpAny_pure (h none (by simp only [Option.isSome_none]; exact (decide_eq_false hm).symm))
  · have hi : (L.map fun q => thash P w q.2)[i]? = some (thash P w k) := by rw [List.getElem?_map, hq, ← e]; rfl
    have hl : i < t.place.toList.length := by
      have h1 : i < L.length := (List.getElem?_eq_some_iff.mp hq).1
      have h2 := R.tab.sz
      rw [List.length_map] at h2
      rw [Array.length_toList]
      omega
    obtain ⟨c, hc, e2⟩ := R.tab.before hK2 hi (List.getElem?_eq_getElem hl)
    exact ⟨c, Nat.zero_le _, hc, by rw [List.getElem?_eq_getElem hl, e2]⟩
/-- the walk of a set -/
theorem walk_at (R : SetTR P w s.heap a L es ep t) {oth : List Addr} {r : Option Addr} {Q : Array (Int × Value) → Shared → Prop} (h : ∀ xs : Array (Int × Value), xs.toList.Perm (rowsOf P w L) → Q xs s) : wpAny (model P w) A (setWalkUnseen a oth r) Q E s := by
  obtain ⟨ob, hob, _, hdat⟩ := R.ob
  have hst : ∀ {Q' : (Array (Int × Value) × Nat × SetTable) → Shared → Prop}, Q' (es, ep, t) s → wpAny (model P w) A (setState a) Q' E s := fun h => wpAny_setState_of hob hdat R.fits h
  have walk : wpAny (model P w) A (setWalk a) Q E s := by
    unfold setWalk setsByText
    refine wpAny_bind (hst (wpAny_bind (wpAny_bind (wpAny_askSetting (wpAny_pure ?_)))))
    dsimp only
    by_cases hb : w.params.followText "set-order" = true
    · refine wp_if_pos hb (wpAny_bind (wpAny_askSetting (wpAny_pure (h _ ?_))))
      have := pick_perm (w.params.setOrder a ep) es
      rw [R.rows] at this
      exact this
    · have hl : t.led = true := R.led.resolve_left hb
      refine wp_if_neg hb (wp_if_neg (show ¬ ((!t.plain && decide (es.size > 1)) = true) by rw [R.plain]; simp) (wpAny_bind ?_))
      show wpAny _ _ (if (!t.led && decide (es.size > 1)) = true then _ else _) _ _ _
      refine wp_if_neg (by rw [hl]; simp) (wpAny_pure (wpAny_pure (h _ ?_)))
      rw [R.rows]
  unfold setWalkUnseen setsByText
  refine wpAny_bind (hst (wpAny_bind (wpAny_bind (wpAny_askSetting (wpAny_pure ?_)))))
  dsimp only
  refine wp_if_pos ?_ walk
  show (w.params.followText "set-order" || t.led && t.plain || decide (es.size ≤ 1)) = true
  rw [R.plain]
  rcases R.led with e | e <;> rw [e] <;> simp
end
end TSx
set_option maxHeartbeats 2000000
namespace TSx
open L2 PySem PySem.Spec PyProof.Rows
theorem entry_and : entryFor table "set.__and__" = some Builtin.«frozenset.__and__» := entryFor_alias (id' := "frozenset.__and__") (by kernel_rfl) rfl (by decide +kernel) (by kernel_rfl)
theorem perm_map_inv {α β : Type} {f : α → β} {l k : List β} (p : l.Perm k) : ∀ m : List α, k = m.map f → ∃ m' : List α, l = m'.map f ∧ m'.Perm m := by
  induction p with
  | nil => intro m e; exact ⟨m, e, .refl _⟩
  | @cons x l1 l2 p ih =>
    intro m e
    cases m with
    | nil => cases e
    | cons a m =>
      simp only [List.map_cons, List.cons.injEq] at e
      obtain ⟨m', e', p'⟩ := ih m e.2
      exact ⟨a :: m', by rw [List.map_cons, ← e', ← e.1], .cons _ p'⟩
  | @swap x y l =>
    intro m e
    match m, e with
    | [], e => cases e
    | [_], e => simp at e
    | a :: b :: m, e =>
      simp only [List.map_cons, List.cons.injEq] at e
      exact ⟨b :: a :: m, by simp only [List.map_cons, e.1, e.2.1, e.2.2], .swap _ _ _⟩
  | trans p1 p2 ih1 ih2 =>
    intro m e
    obtain ⟨m1, e1, q1⟩ := ih2 m e
    obtain ⟨m2, e2, q2⟩ := ih1 m1 e1
    exact ⟨m2, e2, q2.trans q1⟩
section
variable {P : Program} {w : World} {A : Around} {E : Value → Shared → Prop} {s : Shared}
theorem isT_old {h0 h : Heap} {r c : Addr} {k : List Int} (hr : ∃ o, h0.get? r = some o ∧ o.cls = .type "set") (hk : ∀ c o, c ≠ r → h0.get? c = some o → h.get? c = some o) (x : IsT P w h0 k c) : IsT P w h k c := by
  obtain ⟨o, items, n, ho, hc, rr⟩ := x
  refine ⟨o, items, n, hk c o (fun e => ?_) ho, hc, rr⟩
  subst e
  obtain ⟨o', ho', hc'⟩ := hr
  rw [ho] at ho'
  cases ho'
  rw [hc] at hc'
  exact absurd (Value.type.inj hc') (by decide)
theorem setTR_old {h0 h : Heap} {r c : Addr} {L : List (Addr × List Int)} {es : Array (Int × Value)} {ep : Nat} {t : SetTable} (hr : ∃ o, h0.get? r = some o ∧ o.cls = .type "set") (hk : ∀ c o, c ≠ r → h0.get? c = some o → h.get? c = some o) (hc : c ≠ r) (R : SetTR P w h0 c L es ep t) : SetTR P w h c L es ep t :=
  R.keep (fun o e => hk c o hc e) fun p hp => isT_old hr hk (R.tup p hp)
/-- what the filled set is behind the items Ld of the walked one -/
structure AndIv (P : Program) (w : World) (h0 h : Heap) (r : Addr) (La Ld L : List (Addr × List Int)) : Prop where
  keep : ∀ c o, c ≠ r → h0.get? c = some o → h.get? c = some o
  set : ∃ es ep t, SetTR P w h r L es ep t
  len : L.length ≤ Ld.length
  sub : ∀ p ∈ L, p ∈ Ld ∧ p.2 ∈ La.map (·.2)
  all : ∀ p ∈ Ld, p.2 ∈ La.map (·.2) → p.2 ∈ L.map (·.2)
theorem AndIv.skip {h0 h : Heap} {r : Addr} {La Ld L : List (Addr × List Int)} {q : Addr × List Int} (v : AndIv P w h0 h r La Ld L) (hq : q.2 ∉ La.map (·.2)) : AndIv P w h0 h r La (Ld ++ [q]) L :=
  ⟨v.keep, v.set, by rw [List.length_append]; have := v.len; omega, fun p hp => ⟨List.mem_append_left _ (v.sub p hp).1, (v.sub p hp).2⟩, fun p hp hm => by
    rcases List.mem_append.mp hp with hp | hp
    · exact v.all p hp hm
    · have : p = q := by simpa using hp
      subst this
      exact absurd hm hq⟩
theorem AndIv.put {h0 h h' : Heap} {r : Addr} {La Ld L L' : List (Addr × List Int)} {q : Addr × List Int} (v : AndIv P w h0 h r La Ld L) (hq : q.2 ∈ La.map (·.2)) (sb : Heap.SameBut r h h') {es : Array (Int × Value)} {ep : Nat} {t : SetTable} (R : SetTR P w h' r L' es ep t)
    (h1 : q.2 ∈ L.map (·.2) → L' = L) (h2 : q.2 ∉ L.map (·.2) → L'.Perm (q :: L)) : AndIv P w h0 h' r La (Ld ++ [q]) L' := by
  have hl := v.len
  refine ⟨fun c o hc e => (sb.2 c hc).trans (v.keep c o hc e), ⟨es, ep, t, R⟩, ?_, fun p hp => ?_, fun p hp hm => ?_⟩
  · rw [List.length_append, List.length_singleton]
    by_cases hin : q.2 ∈ L.map (·.2)
    · rw [h1 hin]; omega
    · rw [(h2 hin).length_eq, List.length_cons]; omega
  · by_cases hin : q.2 ∈ L.map (·.2)
    · rw [h1 hin] at hp
      exact ⟨List.mem_append_left _ (v.sub p hp).1, (v.sub p hp).2⟩
    · rcases List.mem_cons.mp ((h2 hin).mem_iff.mp hp) with e | hp
      · subst e
        exact ⟨by simp, hq⟩
      · exact ⟨List.mem_append_left _ (v.sub p hp).1, (v.sub p hp).2⟩
  · by_cases hin : q.2 ∈ L.map (·.2)
    · rw [h1 hin]
      rcases List.mem_append.mp hp with hp | hp
      · exact v.all p hp hm
      · have : p = q := by simpa using hp
        subst this
        exact hin
    · have hmem : ∀ z, z ∈ q :: L → z.2 ∈ L'.map (·.2) := fun z hz => List.mem_map.mpr ⟨z, (h2 hin).mem_iff.mpr hz, rfl⟩
      rcases List.mem_append.mp hp with hp | hp
      · obtain ⟨z, hz, e⟩ := List.mem_map.mp (v.all p hp hm)
        rw [← e]
        exact hmem z (List.mem_cons_of_mem _ hz)
      · have : p = q := by simpa using hp
        subst this
        exact hmem p List.mem_cons_self
/-- the walk over d, c asked, r filled -/
theorem and_walk {id : String} {c d r : Addr} {Lc Ld : List (Addr × List Int)} {esc esd : Array (Int × Value)} {epc epd : Nat} {tc td : SetTable} (hu : A.units < cLine) (Rc : SetTR P w s.heap c Lc esc epc tc) (Rd : SetTR P w s.heap d Ld esd epd td) (hcr : c ≠ r) (hdr : d ≠ r)
    (hr : ∃ o, s.heap.get? r = some o ∧ o.cls = .type "set") {es0 : Array (Int × Value)} {ep0 : Nat} {t0 : SetTable} (R0 : SetTR P w s.heap r [] es0 ep0 t0) {Q : PUnit → Shared → Prop}
    (hQ : ∀ h' L, (∀ c o, c ≠ r → s.heap.get? c = some o → h'.get? c = some o) → (∃ es ep t, SetTR P w h' r L es ep t) → (∀ p ∈ L, p ∈ Ld) → (∀ k, k ∈ L.map (·.2) ↔ k ∈ Lc.map (·.2) ∧ k ∈ Ld.map (·.2)) → Q ⟨⟩ { s with heap := h' }) :
    wpAny (model P w) A (do
      let was ← setEpoch d
      let xs ← setWalkUnseen d [c, r] (some r)
      forIn xs PUnit.unit fun x _ => do
        holding [x.snd] do
          let f ← setFind c x.snd x.fst
          if f.isSome = true then do
            let _ ← setAddHashed r x.snd x.fst
            pure ()
          else pure ()
        Builtin.Frozenset.unchanged id d was
        pure (ForInStep.yield PUnit.unit)
      pure ()) Q E s := by
  obtain ⟨od, hod, hxd, hdd⟩ := Rd.ob
  refine wpAny_bind (wpAny_setEpoch_of hod hdd Rd.fits ?_)
  refine wpAny_bind (walk_at Rd fun xs hperm => ?_)
  obtain ⟨Lx, ex, hp⟩ := perm_map_inv hperm Ld rfl
  rw [← Array.forIn_toList, ex]
  refine wpAny_bind (wpAny_forIn_list _ (fun rest _ s' => ∃ (Ldone Lrest L : List (Addr × List Int)) (h : Heap), Lx = Ldone ++ Lrest ∧ rest = rowsOf P w Lrest ∧ s' = { s with heap := h } ∧ AndIv P w s.heap h r Lc Ldone L) _ ?_ ?_ _ _
    ⟨[], Lx, [], s.heap, rfl, rfl, rfl, ⟨fun _ _ _ e => e, ⟨_, _, _, R0⟩, Nat.le_refl _, fun p hp => (by cases hp), fun p hp => (by cases hp)⟩⟩)
  · rintro x rest _ s' ⟨Ldone, Lrest, L, h, e1, e2, rfl, v⟩
    cases Lrest with
    | nil => cases e2
    | cons q Lrest =>
      simp only [rowsOf, List.map_cons, List.cons.injEq] at e2
      obtain ⟨rfl, rfl⟩ := e2
      have hqd : q ∈ Ld := hp.mem_iff.mp (by rw [e1]; simp)
      have hfew : Lx.length < 64 := by rw [hp.length_eq]; exact Rd.few
      have hlen : Ldone.length + 1 ≤ Lx.length := by rw [e1, List.length_append, List.length_cons]; omega
      have hT : ∀ {g : Heap}, (∀ c o, c ≠ r → s.heap.get? c = some o → g.get? c = some o) → IsT P w g q.2 q.1 := fun kp => isT_old hr kp (Rd.tup q hqd)
      obtain ⟨es, ep, t, R⟩ := v.set
      have fin : ∀ (h' : Heap) (L' : List (Addr × List Int)) (Post : ForInStep PUnit → Shared → Prop), AndIv P w s.heap h' r Lc (Ldone ++ [q]) L' → Post (.yield PUnit.unit) { s with heap := h' } →
          wpAny (model P w) A (Builtin.Frozenset.unchanged id d epd >>= fun _ => pure (ForInStep.yield PUnit.unit)) Post E { s with heap := h' } := fun h' L' Post v' hPost => by
        have Rd' := setTR_old hr v'.keep hdr Rd
        obtain ⟨od', hod', _, hdd'⟩ := Rd'.ob
        unfold Builtin.Frozenset.unchanged
        refine wpAny_bind (wpAny_bind (wpAny_setEpoch_of (s := { s with heap := h' }) hod' hdd' (SetTR.fits (s := { s with heap := h' }) Rd') ?_))
        rw [if_neg (by simp)]
        exact wpAny_pure (wpAny_pure hPost)
      refine wpAny_bind (wpAny_holding ?_)
      refine wpAny_bind (find_at (s := { s with heap := h }) (setTR_old hr v.keep hcr Rc) (hT v.keep) hu fun f hf => ?_)
      by_cases hin : q.2 ∈ Lc.map (·.2)
      · rw [if_pos (by rw [hf]; exact decide_eq_true hin)]
        refine wpAny_bind (add_at (s := { s with heap := h }) R (hT v.keep) hu (by have := v.len; omega) fun _ h' L' es' ep' t' sb R' g1 g2 => wpAny_pure ?_)
        exact fin h' L' _ (v.put hin sb R' g1 g2) ⟨Ldone ++ [q], Lrest, L', h', by rw [e1]; simp, rfl, rfl, v.put hin sb R' g1 g2⟩
      · rw [if_neg (by rw [hf]; simp [hin])]
        exact wpAny_pure (fin h L _ (v.skip hin) ⟨Ldone ++ [q], Lrest, L, h, by rw [e1]; simp, rfl, rfl, v.skip hin⟩)
  · rintro ⟨⟩ s' ⟨Ldone, Lrest, L, h, e1, e2, rfl, v⟩
    have : Lrest = [] := by
      cases Lrest with
      | nil => rfl
      | cons _ _ => cases e2
    subst this
    rw [List.append_nil] at e1
    subst e1
    refine wpAny_pure ?_
    refine hQ h L v.keep v.set (fun p hpL => hp.mem_iff.mp (v.sub p hpL).1) fun k => ⟨fun hk => ?_, fun ⟨h1, h2⟩ => ?_⟩
    · obtain ⟨p, hpL, rfl⟩ := List.mem_map.mp hk
      exact ⟨(v.sub p hpL).2, List.mem_map.mpr ⟨p, hp.mem_iff.mp (v.sub p hpL).1, rfl⟩⟩
    · obtain ⟨p, hpL, rfl⟩ := List.mem_map.mp h2
      exact v.all p (hp.mem_iff.mpr hpL) h1
/-- s & t of two sets -/
theorem call_and {a b : Addr} {La Lb : List (Addr × List Int)} {esa esb : Array (Int × Value)} {epa epb : Nat} {ta tb : SetTable} (hu : A.units + 64 < cLine) (Ra : SetTR P w s.heap a La esa epa ta) (Rb : SetTR P w s.heap b Lb esb epb tb) (hne : a ≠ b) {Q : Value → Shared → Prop}
    (hQ : ∀ h' L, (∀ c o, s.heap.get? c = some o → h'.get? c = some o) → (∃ es ep t, SetTR P w h' s.heap.objs.size L es ep t) → (∀ p ∈ L, p ∈ La ∨ p ∈ Lb) → (∀ k, k ∈ L.map (·.2) ↔ k ∈ La.map (·.2) ∧ k ∈ Lb.map (·.2)) → Q (.ref s.heap.objs.size) { s with heap := h' }) :
    wpAny (model P w) A (binaryOp .BitAnd (.ref a) (.ref b)) Q E s := by
  obtain ⟨oa, hoa, hxa, hda⟩ := Ra.ob
  obtain ⟨ob, hob, hxb, hdb⟩ := Rb.ob
  have tya : s.TypeIs (.ref a) "set" := ⟨oa, hoa, hxa.1⟩
  have tyb : s.TypeIs (.ref b) "set" := ⟨ob, hob, hxb.1⟩
  refine wpAny_binaryOp_same (op := .BitAnd) (T := "set") tya tyb PySem.F.fills_set_and PySem.F.slot_set_and (wpAny_call_entry PySem.F.slot_set_and tya entry_and ?_ (PySem.F.args_set_and_2 _ _))
  show wpAny _ _ (Builtin.Frozenset.slot1 "__and__" ⟨[.ref a, .ref b], []⟩ >>= _) _ _ _
  refine wpAny_bind (m := Builtin.Frozenset.slot1 "__and__" _) (wpAny_pure ?_)
  dsimp only
  have sub_ss : isSubtype (.type "set") (.type "set") = pure true := by rw [isSubtype_type]; kernel_rfl
  have any : ∀ {x : Value} {Q' : Bool → Shared → Prop} {E' : Value → Shared → Prop} {A' : Around}, s.TypeIs x "set" → Q' true s → wpAny (model P w) A' (Builtin.Frozenset.isAnySet x) Q' E' s := fun ht h => by
    unfold Builtin.Frozenset.isAnySet orM
    refine wpAny_bind (wpAny_isInstance ht sub_ss ?_)
    exact wpAny_pure h
  refine wpAny_bind ?_
  show wpAny (model P w) A.in1 (Builtin.Frozenset.isAnySet (.ref a) <&&> Builtin.Frozenset.isAnySet (.ref b)) _ E s
  unfold andM
  refine wpAny_bind (any tya ?_)
  show wpAny (model P w) A.in1 (Builtin.Frozenset.isAnySet (.ref b)) _ E s
  refine any tyb ?_
  rw [if_neg (by simp)]
  show wpAny (model P w) A.in1 (Builtin.Frozenset.intersection _ a (.ref b) >>= fun v => ret v) _ E s
  refine wpAny_bind ?_
  unfold Builtin.Frozenset.intersection
  have hbeq : ((Value.ref b == Value.ref a) = false) := beq_eq_false_iff_ne.mpr fun e => hne (by injection e with e; exact e.symm)
  rw [hbeq]
  simp only [Bool.false_eq_true, if_false]
  try refine wpAny_bind (wpAny_pure ?_)
  unfold Builtin.Frozenset.baseOf
  refine wpAny_bind (wpAny_bind (wpAny_isInstance tya sub_ss (wpAny_pure ?_)))
  simp only [if_true]
  refine wpAny_bind (PySem.wpAny_newSet_raw fun led hled => ?_)
  unfold Builtin.Frozenset.addrOf
  refine wpAny_bind (wpAny_pure ?_)
  dsimp only
  refine wpAny_bind (wpAny_holding ?_)
  have hget : (s.heap.push { cls := .type "set", dict := none, data := .set #[] 0 (.fresh 0 0 led) }).get? s.heap.objs.size = some { cls := .type "set", dict := none, data := .set #[] 0 (.fresh 0 0 led) } := Heap.get?_push_size _ rfl
  subst hled
  have kp : ∀ c o, s.heap.get? c = some o → (s.heap.push { cls := .type "set", dict := none, data := .set #[] 0 (.fresh 0 0 (!w.params.followText "set-order")) }).get? c = some o := fun c o e => Heap.get?_push_of_some _ e
  have Ra' := Ra.keep (fun o e => kp a o e) fun p hp => isT_keep (Ra.tup p hp) kp
  have Rb' := Rb.keep (fun o e => kp b o e) fun p hp => isT_keep (Rb.tup p hp) kp
  have R0 := setTR_fresh (P := P) (w := w) hget
  have hra : a ≠ s.heap.objs.size := Nat.ne_of_lt (Heap.lt_size hoa)
  have hrb : b ≠ s.heap.objs.size := Nat.ne_of_lt (Heap.lt_size hob)
  have hu' : A.in1.units < cLine := by show A.units + _ < cLine; omega
  have tyb' : Shared.TypeIs { s with heap := s.heap.push { cls := .type "set", dict := none, data := .set #[] 0 (.fresh 0 0 (!w.params.followText "set-order")) } } (.ref b) "set" := ⟨ob, kp b ob hob, hxb.1⟩
  unfold Builtin.Frozenset.isAnySet orM
  refine wpAny_bind (wpAny_bind (wpAny_isInstance tyb' sub_ss (wpAny_pure ?_)))
  simp only [if_true]
  refine wpAny_bind (wpAny_pure ?_)
  unfold Builtin.Frozenset.sizeOf
  refine wpAny_bind (wpAny_bind (wpAny_setEntries_of (kp b ob hob) hdb Rb.fits (wpAny_pure ?_)))
  refine wpAny_bind (wpAny_bind (wpAny_setEntries_of (kp a oa hoa) hda Ra.fits (wpAny_pure ?_)))
  have old : ∀ h' : Heap, (∀ c o, c ≠ s.heap.objs.size → (s.heap.push { cls := .type "set", dict := none, data := .set #[] 0 (.fresh 0 0 (!w.params.followText "set-order")) }).get? c = some o → h'.get? c = some o) → ∀ c o, s.heap.get? c = some o → h'.get? c = some o :=
    fun h' hk c o e => hk c o (Nat.ne_of_lt (Heap.lt_size e)) (kp c o e)
  have hset : ∃ o, (s.heap.push { cls := .type "set", dict := none, data := .set #[] 0 (.fresh 0 0 (!w.params.followText "set-order")) }).get? s.heap.objs.size = some o ∧ o.cls = .type "set" := ⟨_, hget, rfl⟩
  by_cases hsz : esb.size > esa.size
  · simp only [if_pos hsz]
    refine and_walk (s := { s with heap := s.heap.push { cls := .type "set", dict := none, data := .set #[] 0 (.fresh 0 0 (!w.params.followText "set-order")) } }) hu' Rb' Ra' hrb hra hset R0 fun h' L hk hs hsub hiff => ?_
    exact wpAny_pure (wpAny_pure ⟨_, rfl, (by intro z; cases z), hQ h' L (old h' hk) hs (fun p hp => .inl (hsub p hp)) fun k => (hiff k).trans And.comm⟩)
  · simp only [if_neg hsz]
    refine and_walk (s := { s with heap := s.heap.push { cls := .type "set", dict := none, data := .set #[] 0 (.fresh 0 0 (!w.params.followText "set-order")) } }) hu' Ra' Rb' hra hrb hset R0 fun h' L hk hs hsub hiff => ?_
    exact wpAny_pure (wpAny_pure ⟨_, rfl, (by intro z; cases z), hQ h' L (old h' hk) hs (fun p hp => .inr (hsub p hp)) hiff⟩)
end
end TSx
set_option maxHeartbeats 2000000
namespace TSx
open L2 PySem PySem.Spec PyProof.Rows
section
variable {P : Program} {w : World} {A : Around} {E : Value → Shared → Prop} {s : Shared}
abbrev refV (p : Addr × List Int) : Value := .ref p.1
/-- sorted(s), the tuples not empty, of any ints -/
theorem sorted_set {a : Addr} {L : List (Addr × List Int)} {es : Array (Int × Value)} {ep : Nat} {t : SetTable} {Q : Value → Shared → Prop} (R : SetTR P w s.heap a L es ep t) (hh : A.handled = none) (hne : ∀ p ∈ L, p.2 ≠ [])
    (hQ : ∀ (s' : Shared) (d c : Nat) (L' : List (Addr × List Int)), (∀ b o, s.heap.get? b = some o → s'.heap.get? b = some o) → s'.gens = s.gens → s'.os = s.os → s.heap.objs.size ≤ d → s'.heap.get? d = some (seqObj "list" (L'.map refV).toArray c) → L'.Perm L →
      L'.Pairwise (fun p q => HT.lexLt q.2 p.2 = false) → Q (.ref d) s') : wpAny (model P w) A (call (.builtin "sorted") [.ref a]) Q E s := by
  obtain ⟨ob, hob, hex, hdat⟩ := R.ob
  have hsz := R.size
  have hfew := R.few
  refine Calls.call_function_entry kind_sorted plain_sorted entry_sorted (args_sorted1 _) ?_
  unfold Builtin.«sorted»
  refine wpAny_bind (m := checkCount "sorted" 1 1 _) (wpAny_pure (wpAny_bind ?_))
  refine collect_set (A := A.in1) hh ⟨ob, hob, hex.1, hdat⟩ R.fits (by unfold scanBound; omega) R.tab.ris R.led fun s1 vs k1 z1 g1 o1 pm => ?_
  have e0 : es.toList.map (·.2) = L.map refV := by
    rw [R.rows]
    unfold rowsOf
    rw [List.map_map]; rfl
  rw [e0] at pm
  obtain ⟨L1, rfl, p1⟩ := perm_map_inv pm L rfl
  have hlen : (L1.map refV).length < 64 := by rw [List.length_map, p1.length_eq]; exact hfew
  have hbig : (L1.map refV).length ≤ sizeLine := Nat.le_trans (Nat.le_of_lt hlen) (by decide)
  refine wpAny_bind (wpAny_newList ?_ hbig)
  have hnew : (s1.heap.push (seqObj "list" (L1.map refV).toArray 0)).get? s1.heap.objs.size = some (seqObj "list" (L1.map refV).toArray 0) := Heap.get?_push_size _ rfl
  have tI : ∀ p ∈ L1, TS.TupInts (s1.heap.push (seqObj "list" (L1.map refV).toArray 0)) (refV p) p.2 := fun p hp => tupInts_of (P := P) (w := w) (isT_keep (R.tup p (p1.mem_iff.mp hp)) fun b u e => Heap.get?_push_of_some _ (k1 b u e))
  have tups : DL.TupsAre (s1.heap.push (seqObj "list" (L1.map refV).toArray 0)) (TS.intsOf (s1.heap.push (seqObj "list" (L1.map refV).toArray 0))) (L1.map refV) := fun v hv => by
    obtain ⟨p, hp, rfl⟩ := List.mem_map.mp hv
    rw [(tI p hp).ints]
    exact ⟨tI p hp, hne p (p1.mem_iff.mp hp)⟩
  show wpAny _ _ _ _ _ { s1 with heap := s1.heap.push (seqObj "list" (L1.map refV).toArray 0) }
  refine wpAny_bind (wpAny_holding (wpAny_call_entry slot_list_sort ⟨_, hnew, rfl⟩ entry_list_sort
    (SrtO.list_sort_ord (s := { s1 with heap := s1.heap.push (seqObj "list" (L1.map refV).toArray 0) }) (DL.swo_lexI (TS.intsOf (s1.heap.push (seqObj "list" (L1.map refV).toArray 0)))) hnew hbig (fun h2 => ?_) fun out q2 q1 => ⟨_, rfl, ?_⟩) (args_list_sort _)))
  · refine DL.tups_sortable (by omega) tups fun o e => ?_
    have e' : some o = some (seqObj "list" (L1.map refV).toArray 0) := e.symm.trans hnew
    cases e'
    intro c
    exact absurd (Value.type.inj c) (by decide)
  · obtain ⟨L2, rfl, p2⟩ := perm_map_inv q1.perm L1 rfl
    obtain ⟨c, hc⟩ := sortedHeap_at (vs := L1.map refV) (out := (L2.map refV).toArray) hnew
    refine wpAny_pure ⟨_, rfl, hQ _ _ c L2 (fun b u e => ?_) g1 o1 z1 hc (p2.trans p1) ?_⟩
    · have e1 := k1 b u e
      have hlt := Heap.lt_size e1
      show (sortedHeap (s1.heap.push (seqObj "list" (L1.map refV).toArray 0)) s1.heap.objs.size (L1.map refV) (L2.map refV).toArray).get? b = some u
      rw [sortedHeap_old (Nat.ne_of_lt hlt) (by rw [size_push']; exact Nat.lt_succ_of_lt hlt)]
      exact Heap.get?_push_of_some _ e1
    · refine List.Pairwise.imp_of_mem (fun {p q} hp hq h => ?_) (List.pairwise_map.mp q2)
      have h' : HT.lexLt (TS.intsOf (s1.heap.push (seqObj "list" (L1.map refV).toArray 0)) (refV q)) (TS.intsOf (s1.heap.push (seqObj "list" (L1.map refV).toArray 0)) (refV p)) = false := h
      rw [(tI p (p2.mem_iff.mp hp)).ints, (tI q (p2.mem_iff.mp hq)).ints] at h'
      exact h'
end
end TSx
namespace L2
open PySem PySem.Spec PyProof.Rows
section
variable {X : Cx}
def rAndT (K : PySem.W.Frag) (P : Program) (w : World) : R2 := fun x y H Q => ∃ (a b : Addr) (La Lb : List (Addr × List Int)), x = .ref a ∧ y = .ref b ∧ a ≠ b ∧ H a = some (SetTO P w a La) ∧ H b = some (SetTO P w b Lb) ∧ (∀ p ∈ La, SqT K H p.1 (p.2.map V.int)) ∧ (∀ p ∈ Lb, SqT K H p.1 (p.2.map V.int)) ∧
  ∀ (c : Addr) (L : List (Addr × List Int)), H c = none → (∀ p ∈ L, p ∈ La ∨ p ∈ Lb) → (L.map (·.2)).Nodup → (∀ k, k ∈ L.map (·.2) ↔ k ∈ La.map (·.2) ∧ k ∈ Lb.map (·.2)) → Q (.ref c) (upd H c (SetTO P w c L))
theorem op_andT (hu : X.A.units + 64 < cLine) : OpR X (binaryOp .BitAnd) (rAndT X.K X.prog X.w) := by
  intro pins s σ H x y v u Q I rx ry h
  obtain ⟨a, b, La, Lb, rfl, rfl, hne, ha, hb, ka, kb, q⟩ := h
  cases rx
  cases ry
  have A0 : SetT0 X.prog X.w s.heap a La := (I.hok a _ ha).1
  have B0 : SetT0 X.prog X.w s.heap b Lb := (I.hok b _ hb).1
  obtain ⟨es, ep, t, Ra⟩ := A0.full fun p hp => I.isT (ka p hp)
  obtain ⟨es', ep', t', Rb⟩ := B0.full fun p hp => I.isT (kb p hp)
  refine TSx.call_and hu Ra Rb hne fun h' L kp ⟨es2, ep2, t2, R⟩ hsub hiff => ?_
  exact ⟨.ref s.heap.objs.size, upd H s.heap.objs.size (SetTO X.prog X.w s.heap.objs.size L), I.laid (t' := s.toks) kp (Nat.le_refl _) (setTO_new R.t0), rfl, q _ L (I.hok.fresh (Nat.le_refl _)) hsub R.nd hiff⟩
def rSortSet (K : PySem.W.Frag) (P : Program) (w : World) : List V → Hp → VK → Prop := fun vs H Q => ∃ (a : Addr) (L : List (Addr × List Int)), vs = [V.ref a] ∧ H a = some (SetTO P w a L) ∧ (∀ p ∈ L, SqT K H p.1 (p.2.map V.int)) ∧ (∀ p ∈ L, p.2 ≠ []) ∧
  ∀ (L' : List (Addr × List Int)) (p : Addr), L'.Perm L → (L'.map (·.2)).Nodup → L'.Pairwise (fun p q => HT.lexLt q.2 p.2 = false) → H p = none → Q (.ref p) (upd H p (.lst (L'.map fun q => V.ref q.1)))
theorem call_sortSet (hc : X.calm = true) : CallR X (.builtin "sorted") (rSortSet X.K X.prog X.w) := by
  intro pins s σ H vs us Q I r h
  obtain ⟨a, L, rfl, ha, hk, hn, q⟩ := h
  have A0 : SetT0 X.prog X.w s.heap a L := (I.hok a _ ha).1
  obtain ⟨es, ep, t, R⟩ := A0.full fun p hp => I.isT (hk p hp)
  rw [Vals.ref1 r]
  refine TSx.sorted_set R (I.ok.hd hc) hn fun s' d c L' kp hg ho hd hobj pm pw => ?_
  have hnone : H d = none := I.hok.fresh hd
  have hv : Vals (L'.map fun q => V.ref q.1) (L'.map TSx.refV) := vals_of_refs L'
  have hlen : (L'.map fun q => V.ref q.1).length ≤ sizeLine := by
    rw [List.length_map, pm.length_eq]
    exact Nat.le_trans (Nat.le_of_lt R.few) (by decide)
  have J : Inv X pins σ (upd H d (.lst (L'.map fun q => V.ref q.1))) { s with heap := s'.heap, gens := s'.gens, drawn := s'.drawn, toks := s'.toks } :=
    I.call (ch := []) (Un.laid kp hd hnone) (I.hok.laid kp hd ⟨hlen, _, c, hv, hobj⟩) (by rw [hg]; exact I.bare) (fun _ z => nomatch z)
  obtain ⟨h2, g2, d2, t2, o2⟩ := s'
  cases ho
  exact ⟨.ref d, _, J, rfl, q L' d pm ((pm.map (·.2)).nodup_iff.mpr R.nd) pw hnone⟩
end
end L2
set_option maxHeartbeats 2000000
namespace DL
open PySem PySem.Spec PyProof.Rows L2
section
variable {K : PySem.W.Frag} {w w' : Wd} {H H' : Hp} {M : Mem}
/-- the rows' own addresses -/
theorem rows_ks : ∀ {L : List (List Int)} {vs : List V}, Reps K w (rowsD L) vs → ∃ ks : List (Addr × List Int), vs = ks.map (fun p => V.ref p.1) ∧ ks.map (·.2) = L ∧ ∀ p ∈ ks, w.F p.1 = some (.tup (p.2.map V.int))
  | [], vs, r => by
    rw [rowsD, List.map_nil, reps_nil] at r
    subst r
    exact ⟨[], rfl, rfl, fun p hp => nomatch hp⟩
  | a :: L, vs, r => by
    rw [rowsD, List.map_cons, reps_cons] at r
    obtain ⟨y, yr, rfl, r1, r2⟩ := r
    obtain ⟨ks, rfl, e2, h⟩ := rows_ks r2
    rw [rep_tup] at r1
    obtain ⟨p, us, rfl, hp, rs⟩ := r1
    have e : intsD a = (a.map V.int).map D.v := by unfold intsD; rw [List.map_map]; rfl
    rw [e, reps_vs] at rs
    subst rs
    refine ⟨(p, a) :: ks, rfl, by rw [List.map_cons, e2], fun q hq => ?_⟩
    rcases List.mem_cons.mp hq with rfl | hq
    · exact hp
    · exact h q hq
theorem ks_rows : ∀ {ks : List (Addr × List Int)}, (∀ p ∈ ks, w.F p.1 = some (.tup (p.2.map V.int))) → Reps K w (rowsD (ks.map (·.2))) (ks.map fun p => V.ref p.1)
  | [], _ => reps_nil'
  | p :: ks, h => by
    refine reps_cons' (rep_tup.mpr ⟨p.1, _, rfl, h p List.mem_cons_self, ?_⟩) (ks_rows fun q hq => h q (List.mem_cons_of_mem _ hq))
    have e : intsD p.2 = (p.2.map V.int).map D.v := by unfold intsD; rw [List.map_map]; rfl
    rw [e, reps_vs]
/-- what stands on both -/
def bothI (La Lb : List (List Int)) : List (List Int) := sortI (La.filter fun r => decide (r ∈ Lb))
theorem bothI_eq {La Lb R : List (List Int)} (hn : La.Nodup) (ha : Asc R) (hr : R.Nodup) (h : ∀ k, k ∈ R ↔ k ∈ La ∧ k ∈ Lb) : R = bothI La Lb := by
  refine sortI_eq ha ((List.perm_ext_iff_of_nodup hr (hn.filter _)).mpr fun k => ?_)
  rw [h k, List.mem_filter]
  simp
end
section
variable {C : Ctx} {S : DS} {M M1 M2 : Mem} {a b : Expr} {d1 d2 : D} {La Lb : List (List Int)} {p1 p2 p3 p4 p5 p6 p7 : Pos}
/-- sorted(set(a) & set(b)) -/
theorem ed_both (h1 : ED C S M a d1 M1) (h2 : ED C S M1 b d2 M2) (v1 : LV M1 d1 (rowsD La)) (v2 : LV M2 d2 (rowsD Lb)) (hn : La.Nodup) (hna : ∀ r ∈ La, r ≠ []) (hla : La.length < 64) (hlb : Lb.length < 64) (hc : C.calm = true) (hu : C.A.units + 64 < cLine) (hm : C.mg "sorted" = none) (hm2 : C.mg "set" = none)
    (hg : ∀ p, (C.env p).kindOf "sorted" = some .globalImplicit := by intro _; rfl) (hg2 : ∀ p, (C.env p).kindOf "set" = some .globalImplicit := by intro _; rfl) (ea : ∀ p, starEach [a] (C.env p) = (false, eval a (C.env p)) :: starEach [] (C.env p) := by intro _; rfl) (eb : ∀ p, starEach [b] (C.env p) = (false, eval b (C.env p)) :: starEach [] (C.env p) := by intro _; rfl) :
    ED C S M (.Call (.Name "sorted" p1) [.BinOp (.Call (.Name "set" p2) [a] [] p3) .BitAnd (.Call (.Name "set" p4) [b] [] p5) p6] [] p7) (.lst (rowsD (bothI La Lb))) M2 :=
  ED.of (t := tCB (rSortSet C.K C.prog C.w) (tCons (tOp (rAndT C.K C.prog C.w) (tCB (rSetOfT C.K C.prog C.w) (wA C [a])) (tCB (rSetOfT C.K C.prog C.w) (wA C [b]))) tNil)) (fun X hX => by
    have wa := pa_w (es := [a]) hX
    have wb := pa_w (es := [b]) hX
    cases hX with | mk p s0 H0 outer stack ex pn xe hpn =>
      exact pe_callB (call_sortSet hc) (hg p) hm boot_sorted (pa_cons (pe_op (op_andT hu) (pe_callTy (cr_setOfT hc hu) (hg2 p) hm2 boot_set wa (by decide) (by decide) (ea p)) (pe_callTy (cr_setOfT hc hu) (hg2 p) hm2 boot_set wb (by decide) (by decide) (eb p))) pa_nil)) fun w σ H hs hr Q q => by
    refine ad_cons h1 ad_nil ea w σ H hs hr _ fun w1 H1 xs l1 s1 r1 => ?_
    obtain ⟨y1, rfl, t1⟩ := reps_one r1
    obtain ⟨q1, vs1, rfl, st1, rs1⟩ := s1.lv v1 t1
    obtain ⟨ka, rfl, ea2, fa⟩ := rows_ks rs1
    have la : ka.length = La.length := by rw [← ea2, List.length_map]
    refine ⟨q1, ka, rfl, st1, fun p hp => .of (s1.same _ _ (fa p hp)), by omega, fun A1 L1 hA1 hs1 hall1 => ?_⟩
    have j1 := (Go.refl (w := w1) (H := H1)).junk (o := SetTO C.prog C.w A1 L1) hA1
    have sj1 := s1.junk (o := SetTO C.prog C.w A1 L1) (s1.fresh_ρ hA1) (s1.fz hA1)
    refine ad_cons h2 ad_nil eb w1 σ _ sj1 (hr.go (l1.trans j1)) _ fun w2 H2 xs2 l2 s2 r2 => ?_
    obtain ⟨y2, rfl, t2⟩ := reps_one r2
    obtain ⟨q2, vs2, rfl, st2, rs2⟩ := s2.lv v2 t2
    obtain ⟨kb, rfl, eb2, fb⟩ := rows_ks rs2
    have lb : kb.length = Lb.length := by rw [← eb2, List.length_map]
    have hA2 : H2 A1 = some (SetTO C.prog C.w A1 L1) := l2.keep _ _ upd_same (s1.fresh_ρ hA1)
    refine ⟨q2, kb, rfl, st2, fun p hp => .of (s2.same _ _ (fb p hp)), by omega, fun B1 L2 hB1 hs2 hall2 => ?_⟩
    have j2 := (Go.refl (w := w2) (H := H2)).junk (o := SetTO C.prog C.w B1 L2) hB1
    have sj2 := s2.junk (o := SetTO C.prog C.w B1 L2) (s2.fresh_ρ hB1) (s2.fz hB1)
    have hne : A1 ≠ B1 := ne_of_none hA2 hB1
    have fa2 : ∀ p ∈ L1, w2.F p.1 = some (.tup (p.2.map V.int)) := fun p hp => l2.le.same _ _ (fa p (hs1 p hp))
    have fb2 : ∀ p ∈ L2, w2.F p.1 = some (.tup (p.2.map V.int)) := fun p hp => fb p (hs2 p hp)
    refine ⟨A1, B1, L1, L2, rfl, rfl, hne, by rw [upd_ne hne]; exact hA2, upd_same, fun p hp => .of (sj2.same _ _ (fa2 p hp)), fun p hp => .of (sj2.same _ _ (fb2 p hp)), fun c L hc0 hsub hnd hiff => ?_⟩
    have j3 := (Go.refl (w := w2)).junk (o := SetTO C.prog C.w c L) hc0
    have sj3 := sj2.junk (o := SetTO C.prog C.w c L) (sj2.fresh_ρ hc0) (sj2.fz hc0)
    have fL : ∀ p ∈ L, w2.F p.1 = some (.tup (p.2.map V.int)) := fun p hp => (hsub p hp).elim (fa2 p) (fb2 p)
    have keyA : ∀ k, k ∈ L1.map (·.2) ↔ k ∈ La := fun k => by
      rw [← ea2]
      constructor
      · intro hk
        obtain ⟨p, hp, rfl⟩ := List.mem_map.mp hk
        exact List.mem_map.mpr ⟨p, hs1 p hp, rfl⟩
      · intro hk
        obtain ⟨p, hp, rfl⟩ := List.mem_map.mp hk
        exact hall1 p hp
    have keyB : ∀ k, k ∈ L2.map (·.2) ↔ k ∈ Lb := fun k => by
      rw [← eb2]
      constructor
      · intro hk
        obtain ⟨p, hp, rfl⟩ := List.mem_map.mp hk
        exact List.mem_map.mpr ⟨p, hs2 p hp, rfl⟩
      · intro hk
        obtain ⟨p, hp, rfl⟩ := List.mem_map.mp hk
        exact hall2 p hp
    refine ⟨c, L, rfl, upd_same, fun p hp => .of (sj3.same _ _ (fL p hp)), fun p hp => hna p.2 ((keyA p.2).mp ((hiff p.2).mp (List.mem_map.mpr ⟨p, hp, rfl⟩)).1), fun L' e hperm hnd' hasc he => ?_⟩
    have hR : L'.map (·.2) = bothI La Lb := bothI_eq hn (List.pairwise_map.mpr hasc) hnd' fun k => by
      rw [(hperm.map (·.2)).mem_iff, hiff, keyA, keyB]
    obtain ⟨g, s4, r4⟩ := sj3.put_lst (ks_rows (K := C.K) fun p hp => fL p (hperm.mem_iff.mp hp)) he
    rw [hR] at r4
    exact q _ _ _ (((((l1.trans j1).trans l2).trans j2).trans j3).trans g) s4 r4
end
end DL
set_option maxHeartbeats 2000000
namespace KS
open PySem PySem.Spec PyProof.Rows L2 DL
/-- rows that the mark has seen -/
def SeenBy (m : List Int) (L : List (List Int)) : Prop := ∀ x, x ∈ L → ∃ (k : Nat) (n v y : Int), x = [(k : Int), n, v] ∧ m[k]? = some y ∧ n ≤ y
theorem SeenBy.rows {m : List Int} {L : List (List Int)} (h : SeenBy m L) : RowsOf m L := fun x hx => by
  obtain ⟨k, n, v, y, e, hy, _⟩ := h x hx
  exact ⟨k, n, v, y, e, hy⟩
theorem SeenBy.no {m : List Int} {L : List (List Int)} (h : SeenBy m L) {x : List Int} (hx : x ∈ L) : unseenB m x = false := by
  obtain ⟨k, n, v, y, rfl, hy, hn⟩ := h x hx
  rw [unseenB_of hy]
  simp [hn]
theorem SeenBy.le {m m' : List Int} {L : List (List Int)} (h : SeenBy m L) (hl : m.length = m'.length) (hm : ∀ k : Nat, m.getD k 0 ≤ m'.getD k 0) : SeenBy m' L := fun x hx => by
  obtain ⟨k, n, v, y, e, hy, hn⟩ := h x hx
  have hk : k < m'.length := by rw [← hl]; exact (List.getElem?_eq_some_iff.mp hy).1
  refine ⟨k, n, v, m'.getD k 0, e, get_getD hk, ?_⟩
  have := hm k
  rw [getD_of hy] at this
  omega
theorem joinI_getD {a b : List Int} (h : a.length = b.length) (k : Nat) : (joinI a b).getD k 0 = max (a.getD k 0) (b.getD k 0) := by
  unfold joinI
  simp only [List.getD_eq_getElem?_getD, List.getElem?_zipWith]
  by_cases hk : k < a.length
  · have hb : k < b.length := by omega
    simp [hk, hb]
  · have hb : ¬ k < b.length := by omega
    simp [hk, hb]
theorem joinI_comm (a b : List Int) : joinI a b = joinI b a := by
  unfold joinI
  rw [List.zipWith_comm]
  congr 1
  funext x y
  exact Int.max_comm _ _
theorem joinI_self (a : List Int) : joinI a a = a := by
  unfold joinI
  induction a with
  | nil => rfl
  | cons x a ih => simp [ih]
theorem ext_getD {a b : List Int} (hl : a.length = b.length) (h : ∀ k, a.getD k 0 = b.getD k 0) : a = b := by
  apply List.ext_getElem?
  intro k
  by_cases hk : k < a.length
  · rw [get_getD hk, get_getD (by omega : k < b.length), h]
  · rw [List.getElem?_eq_none (by omega), List.getElem?_eq_none (by omega)]
theorem joinI_absorb {a b : List Int} (h : a.length = b.length) : joinI (joinI a b) a = joinI a b := by
  have h1 : (joinI a b).length = a.length := joinI_len h
  refine ext_getD (by rw [joinI_len h1]) fun k => ?_
  rw [joinI_getD h1, joinI_getD h]
  omega
/-! ### where two shelves meet -/
def metL (a b : List Int) (A B : List (List Int)) : List (List Int) := bothI A B ++ (A.filter (unseenB b) ++ B.filter (unseenB a))
def metI (a b : List Int) (A B : List (List Int)) : List (List Int) := sortI (metL a b A B)
theorem mem_both {A B : List (List Int)} {x : List Int} : x ∈ bothI A B ↔ x ∈ A ∧ x ∈ B := by
  unfold bothI
  rw [(sortI_perm _).mem_iff, List.mem_filter]
  simp
theorem mem_metL {a b : List Int} {A B : List (List Int)} {x : List Int} : x ∈ metL a b A B ↔ (x ∈ A ∧ x ∈ B) ∨ (x ∈ A ∧ unseenB b x = true) ∨ (x ∈ B ∧ unseenB a x = true) := by
  unfold metL
  simp only [List.mem_append, mem_both, List.mem_filter]
theorem both_nodup {A B : List (List Int)} (h : A.Nodup) : (bothI A B).Nodup := (sortI_perm _).nodup_iff.mpr (h.filter _)
theorem metL_nodup {a b : List Int} {A B : List (List Int)} (hA : A.Nodup) (hB : B.Nodup) (sA : SeenBy a A) (sB : SeenBy b B) : (metL a b A B).Nodup := by
  refine List.nodup_append.mpr ⟨both_nodup hA, List.nodup_append.mpr ⟨hA.filter _, hB.filter _, ?_⟩, ?_⟩
  · rintro x hx y hy rfl
    have h1 := (List.mem_filter.mp hx).1
    have h2 := (List.mem_filter.mp hy).2
    rw [sA.no h1] at h2
    cases h2
  · rintro x hx y hy rfl
    obtain ⟨h1, h2⟩ := mem_both.mp hx
    rcases List.mem_append.mp hy with h | h
    · have := (List.mem_filter.mp h).2
      rw [sB.no h2] at this
      cases this
    · have := (List.mem_filter.mp h).2
      rw [sA.no h1] at this
      cases this
theorem sortI_ext {L M : List (List Int)} (hl : L.Nodup) (hm : M.Nodup) (h : ∀ x, x ∈ L ↔ x ∈ M) : sortI L = sortI M := asc_unique (sortI_asc L) (sortI_asc M) ((sortI_perm L).trans (((List.perm_ext_iff_of_nodup hl hm).mpr h).trans (sortI_perm M).symm))
theorem sortI_of_asc {L : List (List Int)} (h : Asc L) : sortI L = L := asc_unique (sortI_asc L) h (sortI_perm L)
/-- what stands where the two meet -/
def DueIs (a b : List Int) (A B D : List (List Int)) : Prop := D.Nodup ∧ Asc D ∧ ∀ x, x ∈ D ↔ (x ∈ A ∧ (x ∈ B ∨ unseenB b x = true)) ∨ (x ∈ B ∧ unseenB a x = true)
theorem DueIs.eq {a b : List Int} {A B D E : List (List Int)} (h : DueIs a b A B D) (hn : E.Nodup) (he : ∀ x, x ∈ E ↔ x ∈ D) : sortI E = D := by
  rw [← sortI_of_asc h.2.1]
  exact sortI_ext hn h.1 he
section
variable {a b : List Int} {A B D : List (List Int)}
theorem met_due (hA : A.Nodup) (hB : B.Nodup) (sA : SeenBy a A) (sB : SeenBy b B) (h : DueIs a b A B D) : metI a b A B = D := h.eq (metL_nodup hA hB sA sB) fun x => by
  rw [mem_metL, h.2.2]
  constructor
  · rintro (⟨h1, h2⟩ | ⟨h1, h2⟩ | h1)
    · exact .inl ⟨h1, .inl h2⟩
    · exact .inl ⟨h1, .inr h2⟩
    · exact .inr h1
  · rintro (⟨h1, h2 | h2⟩ | h1)
    · exact .inl ⟨h1, h2⟩
    · exact .inr (.inl ⟨h1, h2⟩)
    · exact .inr (.inr h1)
theorem met_due' (hA : A.Nodup) (hB : B.Nodup) (sA : SeenBy a A) (sB : SeenBy b B) (h : DueIs a b A B D) : metI b a B A = D := h.eq (metL_nodup hB hA sB sA) fun x => by
  rw [mem_metL, h.2.2]
  constructor
  · rintro (⟨h1, h2⟩ | h1 | h1)
    · exact .inl ⟨h2, .inl h1⟩
    · exact .inr h1
    · exact .inl ⟨h1.1, .inr h1.2⟩
  · rintro (⟨h1, h2 | h2⟩ | h1)
    · exact .inl ⟨h2, h1⟩
    · exact .inr (.inr ⟨h1, h2⟩)
    · exact .inr (.inl h1)
theorem met_self (hA : A.Nodup) (sA : SeenBy a A) (h : Asc A) : metI a a A A = A := by
  unfold metI
  rw [← sortI_of_asc h]
  refine (sortI_ext ?_ hA fun x => ?_)
  · rw [sortI_of_asc h]
    exact metL_nodup hA hA sA sA
  · rw [sortI_of_asc h, mem_metL]
    constructor
    · rintro (h1 | h1 | h1)
      · exact h1.1
      · exact h1.1
      · exact h1.1
    · exact fun h1 => .inl ⟨h1, h1⟩
/-- J has seen what a and b have -/
theorem met_with_first {J : List Int} (hA : A.Nodup) (sA : SeenBy a A) (sJ : SeenBy J A) (sD : SeenBy J D) (h : DueIs a b A B D) : metI J a D A = D := h.eq (metL_nodup h.1 hA sD sA) fun x => by
  rw [mem_metL]
  constructor
  · rintro (⟨h1, _⟩ | ⟨h1, _⟩ | ⟨h1, h2⟩)
    · exact h1
    · exact h1
    · rw [sJ.no h1] at h2; cases h2
  · intro hx
    rcases (h.2.2 x).mp hx with ⟨h1, _⟩ | ⟨_, h2⟩
    · exact .inl ⟨hx, h1⟩
    · exact .inr (.inl ⟨hx, h2⟩)
theorem met_with_second {J : List Int} (hB : B.Nodup) (sB : SeenBy b B) (sJ : SeenBy J B) (sD : SeenBy J D) (h : DueIs a b A B D) : metI b J B D = D := h.eq (metL_nodup hB h.1 sB sD) fun x => by
  rw [mem_metL]
  constructor
  · rintro (⟨_, h1⟩ | ⟨h1, h2⟩ | ⟨h1, _⟩)
    · exact h1
    · rw [sJ.no h1] at h2; cases h2
    · exact h1
  · intro hx
    rcases (h.2.2 x).mp hx with ⟨h1, h2 | h2⟩ | ⟨h2, _⟩
    · exact .inl ⟨h2, hx⟩
    · exact .inr (.inr ⟨hx, h2⟩)
    · exact .inl ⟨h2, hx⟩
end
/-! ### the rows of a script are sorted, each once -/
theorem rowI_lt {a b a' b' : Int} (hne : ([a, b] : List Int) ≠ [a', b']) (h : HT.lexLt [a', b'] [a, b] = false) : HT.lexLt (rowI [a', b']) (rowI [a, b]) = false := by
  simp only [rowI, HT.lexLt_cons, HT.lexLt_nil_nil] at h ⊢
  by_cases e : a' = a
  · rw [if_pos e] at h ⊢
    by_cases e2 : b' = b
    · exact absurd (by rw [e, e2]) hne
    · rw [if_neg e2] at h ⊢
      exact h
  · rw [if_neg e] at h ⊢
    exact h
theorem rowsI_asc (n : Nat) (s : List Int) (f : Int) (m : List Int) : Asc (rowsI n s f m) ∧ (rowsI n s f m).Nodup := by
  unfold rowsI
  have hk := keysI_nodup m (cutI s f (f + (n : Int)))
  have hs : (sortI (keysI m (cutI s f (f + (n : Int))))).Nodup := (sortI_perm _).nodup_iff.mpr hk
  have pr : ∀ x ∈ sortI (keysI m (cutI s f (f + (n : Int)))), ∃ a b, x = [a, b] := fun x hx => keysI_pair ((sortI_perm _).mem_iff.mp hx)
  constructor
  · refine List.pairwise_map.mpr (List.Pairwise.imp_of_mem (fun {p q} hp hq h => ?_) (List.Pairwise.and (sortI_asc _) hs))
    obtain ⟨a, b, rfl⟩ := pr p hp
    obtain ⟨a', b', rfl⟩ := pr q hq
    exact rowI_lt h.2 h.1
  · refine List.pairwise_map.mpr (List.Pairwise.imp_of_mem (fun {p q} hp hq h => ?_) hs)
    obtain ⟨a, b, rfl⟩ := pr p hp
    obtain ⟨a', b', rfl⟩ := pr q hq
    intro e
    simp only [rowI, List.cons.injEq] at e
    exact h (by rw [e.1, e.2.1])
theorem rowsI_seen {n : Nat} {s : List Int} {f : Int} {m : List Int} (hm : 1 ≤ m.length) : SeenBy m (rowsI n s f m) := fun x hx => by
  obtain ⟨k, b, v, y, e, hy, _, h2⟩ := rowsI_mem hm hx
  exact ⟨k, b, v, y, e, hy, h2⟩
/-! ### what met does -/
def sUnseenF : Spc := fun ds M r => ∃ (d : D) (L : List (List Int)) (m : List Int), ds = [d, tupI m] ∧ LV M d (rowsD L) ∧ L.length ≤ 100000 ∧ RowsOf m L ∧ r = .ok (.lst (rowsD (L.filter (unseenB m)))) M
def sMet : Spc := fun ds M r => ∃ (a b : List Int) (d1 d2 : D) (A B : List (List Int)), ds = [.tup [tupI a, d1], .tup [tupI b, d2]] ∧ LV M d1 (rowsD A) ∧ LV M d2 (rowsD B) ∧ RowsOf a A ∧ RowsOf b B ∧ a.length = b.length ∧ a.length ≤ 1000 ∧ A.Nodup ∧ A.length < 64 ∧ B.length < 64 ∧
  (r = .ok (.tup [tupI (joinI a b), .lst (rowsD (metI a b A B))]) M ∨ r = .ok (.tup [tupI (joinI a b), .res M.length]) (M ++ [.lst (rowsD (metI a b A B))]))
theorem metL_ne {a b : List Int} {A B : List (List Int)} (hA : RowsOf a A) (hB : RowsOf b B) : ∀ r ∈ metL a b A B, r ≠ [] := fun r hr => by
  rcases mem_metL.mp hr with h | h | h
  · exact hA.ne r h.1
  · exact hA.ne r h.1
  · exact hB.ne r h.1
theorem bothI_len (A B : List (List Int)) : (bothI A B).length ≤ A.length := by
  unfold bothI
  rw [(sortI_perm _).length_eq]
  exact List.length_filter_le _ _
end KS
namespace KS
open PySem PySem.Spec PyProof.Rows L2 DL
theorem any_rows (r : List Int) : ∀ L : List (List Int), ((pyds (rowsD L)).any fun z => PyData.eqv z (pyd (tupI r))) = decide (r ∈ L)
  | [] => rfl
  | x :: L => by
    have h := any_rows r L
    simp only [rowsD, List.map_cons, pyds, List.any_cons] at h ⊢
    rw [tupI_eqv, h]
    by_cases e : x = r
    · subst e; simp
    · have : r ≠ x := fun z => e z.symm
      simp [e, this]
/-- the law's own lists -/
def moreB (B : List (List Int)) (o : List Int) (r : List Int) : Bool := !decide (r ∈ B) && !unseenB o r
def dueB (B : List (List Int)) (o : List Int) (r : List Int) : Bool := decide (r ∈ B) || unseenB o r
def dueB2 (A : List (List Int)) (m : List Int) (r : List Int) : Bool := !decide (r ∈ A) && unseenB m r
structure Good (m : List Int) (L : List (List Int)) : Prop where
  nd : L.Nodup
  asc : Asc L
  seen : SeenBy m L
theorem good_more {o : List Int} {A B : List (List Int)} (hA : A.Nodup) (rA : RowsOf o A) (h : Good o B) : Good o (sortI (B ++ A.filter (moreB B o))) := by
  refine ⟨(sortI_perm _).nodup_iff.mpr (List.nodup_append.mpr ⟨h.nd, hA.filter _, ?_⟩), sortI_asc _, fun x hx => ?_⟩
  · rintro x hx y hy rfl
    have := (List.mem_filter.mp hy).2
    simp [moreB, hx] at this
  · rcases List.mem_append.mp ((sortI_perm _).mem_iff.mp hx) with hx | hx
    · exact h.seen x hx
    · obtain ⟨h1, h2⟩ := List.mem_filter.mp hx
      obtain ⟨k, n, v, y, rfl, hy⟩ := rA x h1
      simp only [moreB, unseenB_of hy, Bool.and_eq_true, Bool.not_not, decide_eq_true_eq] at h2
      exact ⟨k, n, v, y, rfl, hy, h2.2⟩
theorem due_is {a o : List Int} {A B : List (List Int)} (hA : Good a A) (hB : Good o B) : DueIs a o A B (sortI (A.filter (dueB B o) ++ B.filter (dueB2 A a))) := by
  refine ⟨(sortI_perm _).nodup_iff.mpr (List.nodup_append.mpr ⟨hA.nd.filter _, hB.nd.filter _, ?_⟩), sortI_asc _, fun x => ?_⟩
  · rintro x hx y hy rfl
    have h1 := (List.mem_filter.mp hx).1
    have h2 := (List.mem_filter.mp hy).2
    simp [dueB2, h1] at h2
  · rw [(sortI_perm _).mem_iff, List.mem_append, List.mem_filter, List.mem_filter]
    simp only [dueB, dueB2, Bool.or_eq_true, Bool.and_eq_true, Bool.not_eq_true', decide_eq_true_eq, decide_eq_false_iff_not]
    constructor
    · rintro (h | ⟨h1, _, h2⟩)
      · exact .inl h
      · exact .inr ⟨h1, h2⟩
    · rintro (h | ⟨h1, h2⟩)
      · exact .inl h
      · refine .inr ⟨h1, fun hx => ?_, h2⟩
        rw [hA.seen.no hx] at h2
        cases h2
theorem DueIs.sub {a o : List Int} {A B D : List (List Int)} (h : DueIs a o A B D) {x : List Int} (hx : x ∈ D) : x ∈ A ∨ x ∈ B := by
  rcases (h.2.2 x).mp hx with h | h
  · exact .inl h.1
  · exact .inr h.1
theorem DueIs.seen {a o J : List Int} {A B D : List (List Int)} (h : DueIs a o A B D) (hA : SeenBy J A) (hB : SeenBy J B) : SeenBy J D := fun x hx => (h.sub hx).elim (hA x) (hB x)
end KS
namespace KS
open PySem PySem.Spec PyProof.Rows L2 DL
theorem markI_small6 {s : List Int} {f n : Int} : ∀ x ∈ markI s f n, x < 1000000 := fun x hx => by
  unfold markI at hx
  obtain ⟨k, _, rfl⟩ := List.mem_map.mp hx
  have h := Int.emod_lt_of_pos (cellI s (f + k)) (mostI_pos (cellI s 0))
  have : mostI (cellI s 0) ≤ 10 ^ 6 := by
    unfold mostI
    split <;> decide
  omega
theorem add_small {a b : List Int} (ha : ∀ x ∈ a, x < 1000000) (hb : ∀ x ∈ b, x < 1000000) : ∀ x ∈ List.zipWith (· + ·) a b, x < 1073741824 := fun x hx => by
  obtain ⟨i, hi⟩ := List.getElem?_of_mem hx
  rw [List.getElem?_zipWith] at hi
  cases ea : a[i]? with
  | none => rw [ea] at hi; simp at hi
  | some u =>
    cases eb : b[i]? with
    | none => rw [ea, eb] at hi; simp at hi
    | some v =>
      rw [ea, eb] at hi
      have h1 := ha u (List.mem_of_getElem? ea)
      have h2 := hb v (List.mem_of_getElem? eb)
      have : u + v = x := by simpa using hi
      omega
theorem add_join {a b : List Int} {n : Nat} (ha : a.length = n) (hb : b.length = n) : (List.range n).map (fun (k : Nat) => dInt (a.getD k 0 + b.getD k 0)) = intsD (List.zipWith (· + ·) a b) := by
  apply List.ext_getElem?
  intro i
  unfold intsD
  rw [List.getElem?_map, List.getElem?_map, List.getElem?_zipWith]
  by_cases hi : i < n
  · have h1 : i < a.length := by omega
    have h2 : i < b.length := by omega
    simp [hi, h1, h2]
  · have h1 : ¬ i < a.length := by omega
    simp [hi, h1]
end KS
set_option maxHeartbeats 2000000
namespace L2
open PySem PySem.Spec PyProof.Rows
/-- o.m(e, ..) that may raise: what is wanted of exceptions by the slots -/
def tMethE (C : Addr) (m : Str) (sp : Sp) (E : St → XK) (ta : TE) (t : TA) : TE := fun σ H Q => ta σ H fun x H1 => ∃ a dx fs, x = .ref a ∧ H1 a = some (.ins C dx fs) ∧ fs.lookup m = none ∧ t σ H1 fun vs H2 => sp (x :: vs) H2 Q (E σ)
theorem pe_methE {X : Cx} {CX : CXT} {k : Nat} {f C : Addr} {fd : FuncData} {ps : List Str} {sp : Sp} {E : St → XK} {m : Str} {pos apos : Pos} {e o : Expr} {es : List Expr} {ta : TE} {t : TA} {pl : Sem Bool} (he : PE X o ta) (c : Cls X.K C) (hm : Meth X.K C m f)
    (F : FnOk X.prog X.w X.K X.mg X.base CX k f fd ps sp) (hr : Room k X.A) (hb : Binds X.K fd ps []) (hx : ∀ σ, PassesAt CX X σ (E σ)) (ha : PA X (e :: es) t) (hst : starEach (e :: es) X.env = (false, eval e X.env) :: starEach es X.env) (hpl : (backTo pos (starEach es X.env)).any (·.1) = false)
    (ht : eval (.Call (.Attribute o m apos) (e :: es) [] pos) X.env = (do
      let ov ← eval o X.env
      standAt apos.atName
      let (f, first) ← holding [ov] (getMethod ov m pl)
      callWith pos f first (backTo pos (starEach (e :: es) X.env)) (backToKw pos (keywordEach [] X.env)))) : PE X (.Call (.Attribute o m apos) (e :: es) [] pos) (tMethE C m sp E ta t) := by
  constructor
  intro pins s σ H Q I h
  refine PySem.W.methodCall_KW (pl := pl) (thn (he.run pins s σ H _ I h) ?_) ht
  rintro u s1 ⟨x, H1, I1, rx, a, dx, fs, rfl, ea, l, q⟩
  cases rx
  refine getmeth_ok I1 ea c hm l (PySem.W.callWith_K (first := [.ref a]) (h₀ := X.base) I.ok.mod.kin hm.kp (thn (ha.run pos pins s1 σ H1 _ I1 q) ?_) hst hpl)
  rintro us s2 ⟨vs, H2, I2, r, q2⟩
  exact ⟨I2.kIn, run_fnS (us := .ref a :: us) (vs := .ref a :: vs) F hr hb (hx σ) I2 (.cons rfl r) q2⟩
end L2
namespace DL
open PySem PySem.Spec PyProof.Rows L2
/-! ### instances -/
section
variable {κ : Type} [DecidableEq κ] {K : PySem.W.Frag} {w : Wd}
def putFD (f : Str) (d : D) : List (Str × D) → List (Str × D)
  | [] => [(f, d)]
  | (g, x) :: r => if g = f then (g, d) :: r else (g, x) :: putFD f d r
theorem kvrep_putF {f : Str} {d : D} {v : V} (r : Rep K w d v) : ∀ {fs : List (Str × D)} {gs : List (Str × V)}, KVRep K w fs gs → KVRep K w (putFD f d fs) (putF f v gs)
  | [], [], _ => ⟨rfl, reps_cons' r reps_nil'⟩
  | [], _ :: _, h => by have := h.1; simp at this
  | _ :: _, [], h => by have := h.1; simp at this
  | (g, x) :: fs, (g', y) :: gs, h => by
    obtain ⟨h1, h2⟩ := h
    simp only [List.map_cons, List.cons.injEq] at h1
    simp only [List.map_cons] at h2
    rw [reps_cons] at h2
    obtain ⟨z, zs, e, r1, r2⟩ := h2
    obtain ⟨e1, e2⟩ := List.cons.inj e
    obtain ⟨hg, ht⟩ := h1
    subst hg
    unfold putFD putF
    by_cases q : g' = f
    · rw [if_pos q, if_pos q]
      exact ⟨by simp only [List.map_cons, ht], by
        simp only [List.map_cons]
        exact reps_cons' r (e2 ▸ r2)⟩
    · rw [if_neg q, if_neg q]
      obtain ⟨i1, i2⟩ := kvrep_putF (f := f) r (fs := fs) (gs := gs) ⟨ht, e2 ▸ r2⟩
      exact ⟨by simp only [List.map_cons, i1], by
        simp only [List.map_cons]
        exact reps_cons' (e1 ▸ r1) i2⟩
theorem kvrep_lookup {f : Str} : ∀ {fs : List (Str × D)} {gs : List (Str × V)} {d : D}, KVRep K w fs gs → fs.lookup f = some d → ∃ v, gs.lookup f = some v ∧ Rep K w d v
  | [], _, _, _, e => by cases e
  | _ :: _, [], _, h, _ => by have := h.1; simp at this
  | (g, x) :: fs, (g', y) :: gs, d, h, e => by
    obtain ⟨h1, h2⟩ := h
    simp only [List.map_cons, List.cons.injEq] at h1
    simp only [List.map_cons] at h2
    rw [reps_cons] at h2
    obtain ⟨z, zs, e0, r1, r2⟩ := h2
    obtain ⟨e1, e2⟩ := List.cons.inj e0
    obtain ⟨hg, ht⟩ := h1
    subst hg
    simp only [List.lookup] at e ⊢
    cases q : f == g' with
    | true =>
      rw [q] at e
      simp only at e ⊢
      cases e
      exact ⟨y, rfl, e1 ▸ r1⟩
    | false =>
      rw [q] at e
      simp only at e ⊢
      exact kvrep_lookup (fs := fs) (gs := gs) ⟨ht, e2 ▸ r2⟩ e
theorem kvrep_none {f : Str} : ∀ {fs : List (Str × D)} {gs : List (Str × V)}, KVRep K w fs gs → fs.lookup f = none → gs.lookup f = none
  | [], [], _, _ => rfl
  | [], _ :: _, h, _ => by have := h.1; simp at this
  | _ :: _, [], h, _ => by have := h.1; simp at this
  | (g, x) :: fs, (g', y) :: gs, h, e => by
    obtain ⟨h1, h2⟩ := h
    simp only [List.map_cons, List.cons.injEq] at h1
    simp only [List.map_cons] at h2
    rw [reps_cons] at h2
    obtain ⟨z, zs, e0, r1, r2⟩ := h2
    obtain ⟨e1, e2⟩ := List.cons.inj e0
    obtain ⟨hg, ht⟩ := h1
    subst hg
    simp only [List.lookup] at e ⊢
    cases q : f == g' with
    | true => rw [q] at e; cases e
    | false =>
      rw [q] at e
      simp only at e ⊢
      exact kvrep_none (fs := fs) (gs := gs) ⟨ht, e2 ▸ r2⟩ e
theorem KVRep.mono {w' : Wd} (l : w.le w') {kvs : List (κ × D)} {ws : List (κ × V)} (h : KVRep K w kvs ws) : KVRep K w' kvs ws := ⟨h.1, h.2.mono l⟩
/-- what a dict holds at a key -/
def valD (kvs : List (κ × D)) (k : κ) : Option D := (kvs.find? fun kv => decide (kv.1 = k)).map (·.2)
theorem kvrep_val {k : κ} : ∀ {kvs : List (κ × D)} {ws : List (κ × V)}, KVRep K w kvs ws → (∀ d, valD kvs k = some d → ∃ v, valV ws k = some v ∧ Rep K w d v) ∧ (valD kvs k = none → valV ws k = none)
  | [], [], _ => ⟨fun _ e => (by cases e), fun _ => rfl⟩
  | [], _ :: _, h => by have := h.1; simp at this
  | _ :: _, [], h => by have := h.1; simp at this
  | (g, x) :: kvs, (g', y) :: ws, h => by
    obtain ⟨h1, h2⟩ := h
    simp only [List.map_cons, List.cons.injEq] at h1
    simp only [List.map_cons] at h2
    rw [reps_cons] at h2
    obtain ⟨z, zs, e0, r1, r2⟩ := h2
    obtain ⟨e1, e2⟩ := List.cons.inj e0
    obtain ⟨hg, ht⟩ := h1
    subst hg
    have ih := kvrep_val (k := k) (kvs := kvs) (ws := ws) ⟨ht, e2 ▸ r2⟩
    unfold valD valV at ih ⊢
    by_cases q : g' = k
    · simp only [List.find?_cons, q, decide_true, Option.map_some, Option.some.injEq]
      refine ⟨fun d e => ?_, fun e => by cases e⟩
      cases e
      exact ⟨_, rfl, e1 ▸ r1⟩
    · simp only [List.find?_cons, q, decide_false]
      exact ih
end
section
variable {C : Ctx} {S S' S1 : DS} {M M1 M2 M3 M4 M' : Mem} {a b e o i value : Expr} {es : List Expr} {ds : List D} {d dv dd da : D} {pos p2 pos' apos : Pos} {k : Bool} {f m x : Str} {n : Nat} {Cl cl : Addr} {fs : List (Str × D)}
/-- e.f -/
theorem ed_fld (c : Cls C.K Cl) (na : NoAttr C.K Cl f) (h : ED C S M e (.res n) M1) (hM : M1[n]? = some (.ins Cl fs)) (hl : fs.lookup f = some d) (hb : ∀ p, attributeBase e f (C.env p) (eval e (C.env p)) = eval e (C.env p) := by intro _; rfl) : ED C S M (.Attribute e f pos) d M1 :=
  ED.of (t := tFld C.K (wE C e) f) (fun X hX => by
    have pe := pe_w (e := e) hX
    cases hX with | mk p => exact pe_fld pe (hb p)) fun w σ H hs hr Q q => h w σ H hs hr _ fun w1 H1 y l s r => by
      rw [rep_res] at r
      obtain ⟨p, hp, rfl⟩ := r
      obtain ⟨p', o', e1, e2, dx, gs, rfl, kr⟩ := s.res hM
      rw [hp] at e1; cases e1
      obtain ⟨v, hv, rv⟩ := kvrep_lookup kr hl
      exact ⟨p, Cl, dx, gs, v, rfl, e2, c, na, hv, q w1 H1 v l s rv⟩
/-- o.f = value -/
theorem sd_fld (c : Cls C.K Cl) (na : NoAttr C.K Cl f) (hv : ED C S M value dv M1) (ho : ED C S M1 o (.res n) M2) (hM : M2[n]? = some (.ins Cl fs)) (hl : fs.length < 900) (hs : ∀ p, swapsWith value (some (.Attribute o f pos')) pos.line (C.env p) = pure false := by intro _; rfl) :
    SD C S M (.Assign [.Attribute o f pos'] value pos) (.nx S (M2.set n (.ins Cl (putFD f dv fs)))) :=
  SD.of (t := fun _ => sFld C.K (wE C o) (wE C value) f) (fun W X hX ow => by
    have po := pe_w (e := o) hX
    have pv := pe_w (e := value) hX
    cases hX with | mk p => exact ps_fld po pv (hs p)) fun W E w σ H hsat hr q =>
    hv w σ H hsat hr _ fun w1 H1 v l1 s1 r1 => ho w1 σ H1 s1 (hr.go l1) _ fun w2 H2 y l2 s2 r2 => by
      rw [rep_res] at r2
      obtain ⟨p, hp, rfl⟩ := r2
      obtain ⟨p', o', e1, e2, dx, gs, rfl, kr⟩ := s2.res hM
      rw [hp] at e1; cases e1
      have g := (l1.trans l2).trans (Go.chg (o := .ins Cl dx (putF f v gs)) hp)
      have hz : gs.length = fs.length := by
        have := congrArg List.length kr.1
        simpa using this
      exact ⟨p, Cl, dx, gs, rfl, e2, c, na, by omega, q w2 _ σ g (s2.chg hp ⟨dx, _, rfl, kvrep_putF (r1.go l2) kr⟩) (hr.go g)⟩
/-! ### methods -/
/-- the class at Cl has the method m, which does f (its receiver first) -/
def MDf (P : Program) (w : World) (K : PySem.W.Frag) (mg : Str → Option Value) (base : Heap) (k : Nat) (Cl : Addr) (m : Str) (n : Nat) (f : Spc) : Prop :=
  ∃ (fa : Addr) (fd : FuncData) (ps : List Str), FnOk P w K mg base (L2.CX P w) k fa fd ps (spD K n f) ∧ Meth K Cl m fa ∧ Binds K fd ps [] ∧ Cls K Cl
theorem ed_meth {nn kk : Nat} {g : Spc} (F : MDf C.prog C.w C.K C.mg C.base kk Cl m nn g) (hr : Room kk C.A) (h1 : ED C S M o (.res n) M1) (ha : AD C S M1 (e :: es) ds M2) (hM1 : M1[n]? = some (.ins Cl fs)) (hl1 : fs.lookup m = none) (hf : g (.res n :: ds) M2 (.ok d M')) (hl : (D.res n :: ds).length = nn := by rfl)
    (he : ∀ p, starEach (e :: es) (C.env p) = (false, eval e (C.env p)) :: starEach es (C.env p) := by intro _; rfl) (hpl : ∀ p, (backTo pos (starEach es (C.env p))).any (·.1) = false := by intro _; rfl)
    (ht : ∀ p, ∃ pl : Sem Bool, eval (.Call (.Attribute o m apos) (e :: es) [] pos) (C.env p) = (do
      let ov ← eval o (C.env p)
      standAt apos.atName
      let (f, first) ← holding [ov] (getMethod ov m pl)
      callWith pos f first (backTo pos (starEach (e :: es) (C.env p))) (backToKw pos (keywordEach [] (C.env p)))) := by intro _; exact ⟨_, rfl⟩) : ED C S M (.Call (.Attribute o m apos) (e :: es) [] pos) d M' := by
  obtain ⟨fa, fd, ps, G, hm, hb, hc⟩ := F
  refine ED.of (t := tMeth Cl m (spD C.K nn g) [] E0 (wE C o) (wA C (e :: es))) (fun X hX => ?_) fun w σ H hsat hrp Q q => h1 w σ H hsat hrp _ fun w1 H1 y l1 s1 r1 => ?_
  · have po := pe_w (e := o) hX
    have pa := pa_w (es := e :: es) hX
    cases hX with | mk p s0 H0 outer stack ex pn xe hpn =>
      obtain ⟨pl, ht⟩ := ht p
      exact pe_meth (pl := pl) po hc hm G hr hb .nil (fun pins σ H s e s' I hx => by
        obtain ⟨_, _, _, _, _, _, _, _, _, _, _, _, z⟩ := hx
        exact z.elim) pa (he p) (hpl p) ht
  · rw [rep_res] at r1
    obtain ⟨p, hp, rfl⟩ := r1
    obtain ⟨p', o', e1, e2, dx, gs, rfl, kr⟩ := s1.res hM1
    rw [hp] at e1; cases e1
    refine ⟨p, dx, gs, rfl, e2, kvrep_none kr hl1, ha w1 σ H1 s1 (hrp.go l1) _ fun w2 H2 ys l2 s2 r2 => ?_⟩
    rw [List.append_nil]
    have r0 : Rep C.K w2 (.res n) (.ref p) := rep_res.mpr ⟨p, l2.le.at hp, rfl⟩
    have hlen : (V.ref p :: ys).length = nn := by rw [← hl, List.length_cons, List.length_cons, r2.length]
    exact ⟨hlen, w2, M2, .res n :: ds, _, s2, reps_cons' r0 r2, hf, fun w3 H3 z l3 s3 r3 => q w3 H3 z ((l1.trans l2).trans l3) s3 r3⟩
theorem ex_meth {nn kk : Nat} {g : Spc} (F : MDf C.prog C.w C.K C.mg C.base kk Cl m nn g) (hr : Room kk C.A) (h1 : ED C S M o (.res n) M1) (ha : AD C S M1 (e :: es) ds M2) (hM1 : M1[n]? = some (.ins Cl fs)) (hl1 : fs.lookup m = none) (hf : g (.res n :: ds) M2 (.er cl M')) (hl : (D.res n :: ds).length = nn := by rfl)
    (he : ∀ p, starEach (e :: es) (C.env p) = (false, eval e (C.env p)) :: starEach es (C.env p) := by intro _; rfl) (hpl : ∀ p, (backTo pos (starEach es (C.env p))).any (·.1) = false := by intro _; rfl)
    (ht : ∀ p, ∃ pl : Sem Bool, eval (.Call (.Attribute o m apos) (e :: es) [] pos) (C.env p) = (do
      let ov ← eval o (C.env p)
      standAt apos.atName
      let (f, first) ← holding [ov] (getMethod ov m pl)
      callWith pos f first (backTo pos (starEach (e :: es) (C.env p))) (backToKw pos (keywordEach [] (C.env p)))) := by intro _; exact ⟨_, rfl⟩) : EX C S M (.Call (.Attribute o m apos) (e :: es) [] pos) cl M' := fun W w σ H hsat hrp q => by
  obtain ⟨fa, fd, ps, G, hm, hb, hc⟩ := F
  refine ⟨tMethE Cl m (spD C.K nn g) (WE W) (wE C o) (wA C (e :: es)), fun X hX ow => ?_, fun Q => h1 w σ H hsat hrp _ fun w1 H1 y l1 s1 r1 => ?_⟩
  · have po := pe_w (e := o) hX
    have pa := pa_w (es := e :: es) hX
    cases hX with | mk p s0 H0 outer stack ex pn xe hpn =>
      obtain ⟨pl, ht⟩ := ht p
      exact pe_methE (pl := pl) po hc hm G hr hb (fun σ => passAt ow.tk σ) pa (he p) (hpl p) ht
  · rw [rep_res] at r1
    obtain ⟨p, hp, rfl⟩ := r1
    obtain ⟨p', o', e1, e2, dx, gs, rfl, kr⟩ := s1.res hM1
    rw [hp] at e1; cases e1
    refine ⟨p, dx, gs, rfl, e2, kvrep_none kr hl1, ha w1 σ H1 s1 (hrp.go l1) _ fun w2 H2 ys l2 s2 r2 => ?_⟩
    have r0 : Rep C.K w2 (.res n) (.ref p) := rep_res.mpr ⟨p, l2.le.at hp, rfl⟩
    have hlen : (V.ref p :: ys).length = nn := by rw [← hl, List.length_cons, List.length_cons, r2.length]
    exact ⟨hlen, w2, M2, .res n :: ds, _, s2, reps_cons' r0 r2, hf, fun w3 H3 l3 s3 => q w3 H3 ((l1.trans l2).trans l3) s3⟩
/-- C(..): a new instance -/
theorem ed_make {nn kk : Nat} {g : Spc} {fa : Addr} {fd : FuncData} {ps : List Str} (G : FnOk C.prog C.w C.K C.mg C.base (L2.CX C.prog C.w) kk fa fd ps (spD C.K nn g)) (hb : Binds C.K fd ps []) (mk : Mk C.K Cl fa) (hm : C.mg x = some (.ref Cl)) (hr : Room (kk + 1) C.A) (ha : AD C S M (e :: es) ds M1)
    (hf : g (.res M1.length :: ds) (M1 ++ [.ins Cl []]) (.ok (.v .non) M')) (hl : (D.res M1.length :: ds).length = nn := by rfl) (hg : ∀ p, (C.env p).kindOf x = some .globalImplicit := by intro _; rfl)
    (hdb : (x == ("__debug__" : Str)) = false := by decide) (he : ∀ p, starEach (e :: es) (C.env p) = (false, eval e (C.env p)) :: starEach es (C.env p) := by intro _; rfl) (hpl : ∀ p, (backTo pos (starEach es (C.env p))).any (·.1) = false := by intro _; rfl) :
    ED C S M (.Call (.Name x p2) (e :: es) [] pos) (.res M1.length) M' := by
  refine ED.of (t := tMake Cl (spD C.K nn g) [] E0 (wA C (e :: es))) (fun X hX => ?_) fun w σ H hsat hrp Q q => ha w σ H hsat hrp _ fun w1 H1 ys l1 s1 r1 y dx hy hdx hne => ?_
  · have pa := pa_w (es := e :: es) hX
    cases hX with | mk p s0 H0 outer stack ex pn xe hpn =>
      exact pe_make mk G hr (hg p) hm hb .nil (fun pins σ H s e s' I hx => by
        obtain ⟨_, _, _, _, _, _, _, _, _, _, _, _, z⟩ := hx
        exact z.elim) pa hdb (he p) (hpl p)
  · rw [List.append_nil]
    have s2 := s1.junk (o := .own y) (s1.fresh_ρ hdx) (s1.fz hdx)
    have g2 := (Go.refl (w := w1) (H := H1)).junk (o := .own y) hdx
    have hy2 : upd H1 dx (.own y) y = none := by rw [upd_ne (fun z => hne z.symm)]; exact hy
    obtain ⟨g3, s3, r3⟩ := s2.put_res (mo := .ins Cl []) (o := .ins Cl dx []) ⟨dx, [], rfl, rfl, reps_nil'⟩ hy2
    have l3 := (l1.trans g2).trans g3
    have hlen : (V.ref y :: ys).length = nn := by rw [← hl, List.length_cons, List.length_cons, r1.length]
    refine ⟨hlen, _, _, .res M1.length :: ds, _, s3, reps_cons' r3 (r1.go (g2.trans g3)), hf, fun w4 H4 z l4 s4 r4 => ⟨rep_v.mp r4, q w4 H4 _ (l3.trans l4) s4 (r3.go l4)⟩⟩
end
end DL
set_option maxHeartbeats 2000000
namespace DL
open PySem PySem.Spec PyProof.Rows L2
/-! ### dicts with ints and texts as keys -/
def keyD : Key → D
  | .inl i => dInt i
  | .inr x => .v (.str x)
theorem rep_key {K : PySem.W.Frag} {w : Wd} {k : Key} {y : V} : Rep K w (keyD k) y ↔ y = kV k := by
  cases k with
  | inl i => exact rep_v
  | inr x => exact rep_v
section
variable {C : Ctx} {S S' S1 : DS} {M M1 M2 M3 M4 M' : Mem} {a b e o i value elt tg : Expr} {es ifs : List Expr} {ds items : List D} {d dv dd da : D} {pos p2 pos' apos cpos tpos : Pos} {k : Bool} {n : Nat} {kvs : List (Key × D)} {key : Key} {scope : Scope} {own : List (Str × Nat)} {PM : Mem → Prop}
theorem sd_dputK (hA : C.A.units + 1 < cLine) (hv : ED C S M value dv M1) (ho : ED C S M1 o (.res n) M2) (hi : ED C S M2 i (keyD key) M3) (hM : M3[n]? = some (.dK kvs)) (hl : kvs.length < 100000)
    (hs : ∀ p, swapsWith value (some (.Subscript o i pos')) pos.line (C.env p) = pure false := by intro _; rfl) : SD C S M (.Assign [.Subscript o i pos'] value pos) (.nx S (M3.set n (.dK (putD kvs key dv)))) :=
  SD.of (t := fun _ => sDPut (wE C o) (wE C i) (wE C value)) (fun W X hX ow => by
    have z : X.A.units + 1 < cLine → _ → PS X (.Assign [.Subscript o i pos'] value pos) (sDPut (wE C o) (wE C i) (wE C value)) := fun hu hs => ps_dput hu (pe_w hX) (pe_w hX) (pe_w hX) hs
    cases hX with | mk p => exact z hA (hs p)) fun W E w σ H hsat hr q =>
    hv w σ H hsat hr _ fun w1 H1 v l1 s1 r1 => ho w1 σ H1 s1 (hr.go l1) _ fun w2 H2 x l2 s2 r2 => hi w2 σ H2 s2 (hr.go (l1.trans l2)) _ fun w3 H3 y l3 s3 r3 => by
      have r2' := r2.go l3
      rw [rep_res] at r2'
      obtain ⟨p, hp, rfl⟩ := r2'
      obtain ⟨p', o', e1, e2, ws, rfl, kr⟩ := s3.res hM
      rw [hp] at e1; cases e1
      rw [rep_key] at r3
      subst r3
      have lz : ws.length < sizeLine := by rw [kr.length]; exact Nat.lt_of_lt_of_le hl (by decide)
      refine ⟨p, _, rfl, DPut.k (k := key) e2 lz, ?_⟩
      have g := ((l1.trans l2).trans l3).trans (Go.chg (o := .dK (putK ws key v)) hp)
      exact q w3 _ σ g (s3.chg hp ⟨_, rfl, kvrep_put kr (r1.go (l2.trans l3))⟩) (hr.go g)
/-- d.get(key, default) -/
theorem ed_dget2 (hA : C.A.units + 1 < cLine) (ho : ED C S M o (.res n) M1) (hi : ED C S M1 a (keyD key) M2) (hx : ED C S M2 b dd M3) (hM1 : M1[n]? = some (.dK kvs)) (hM : M3[n]? = some (.dK kvs)) (hbase : ∀ p, attributeBase o "get" (C.env p) (eval o (C.env p)) = eval o (C.env p) := by intro _; rfl)
    (hfew : ∀ p, ((backTo cpos (starEach [a, b] (C.env p))).all (fun x => !x.1) && (backToKw cpos (keywordEach [] (C.env p))).all (fun x => x.1.isSome)
      && decide (([a, b] : List Expr).length + ([] : List Keyword).length + (if ([] : List Keyword).isEmpty then 0 else 1) < 30)) = true := by intro _; rfl)
    (hline : (apos.endLine == cpos.line) = true := by rfl) (htr : ∀ p, backTo cpos (starEach [a, b] (C.env p)) = [(false, eval a (C.env p)), (false, eval b (C.env p))] := by intro _; rfl) :
    ED C S M (.Call (.Attribute o "get" apos) [a, b] [] cpos) ((valD kvs key).getD dd) M3 :=
  ED.of (t := tDGet2 (wE C o) (wE C a) (wE C b)) (fun X hX => by
    have z : X.A.units + 1 < cLine → L2.M2 X o "get" apos a b cpos → PE X (.Call (.Attribute o "get" apos) [a, b] [] cpos) (tDGet2 (wE C o) (wE C a) (wE C b)) := fun hu m => pe_dget2 hu (pe_w hX) (pe_w hX) (pe_w hX) m
    cases hX with | mk p => exact z hA ⟨hbase p, hfew p, hline, htr p⟩) fun w σ H hsat hr Q q =>
    ho w σ H hsat hr _ fun w1 H1 x l1 s1 r1 => by
      rw [rep_res] at r1
      obtain ⟨p, hp, rfl⟩ := r1
      obtain ⟨p1, o1, e1, e2, ws1, rfl, kr1⟩ := s1.res hM1
      rw [hp] at e1; cases e1
      refine ⟨p, rfl, .inl ⟨ws1, .inl e2⟩, hi w1 σ H1 s1 (hr.go l1) _ fun w2 H2 y l2 s2 r2 => hx w2 σ H2 s2 (hr.go (l1.trans l2)) _ fun w3 H3 z l3 s3 r3 => ?_⟩
      rw [rep_key] at r2
      subst r2
      obtain ⟨p3, o3, e3, e4, ws, rfl, kr⟩ := s3.res hM
      rw [(l2.trans l3).le.at hp] at e3; cases e3
      refine ⟨valV ws key, DGet.k e4, ?_⟩
      obtain ⟨g1, g2⟩ := kvrep_val (k := key) kr
      cases hv : valD kvs key with
      | none =>
        rw [g2 hv]
        rw [hv] at q
        exact q w3 H3 z ((l1.trans l2).trans l3) s3 r3
      | some d =>
        obtain ⟨v, ev, rv⟩ := g1 d hv
        rw [ev]
        rw [hv] at q
        exact q w3 H3 v ((l1.trans l2).trans l3) s3 rv
/-! ### the pairs of a dict that is locked meanwhile -/
def pairK (kv : Key × D) : D := .tup [keyD kv.1, kv.2]
theorem id_items {elts : List Expr} {kk : Nat} {o0 : HO} (h : ED C S M e (.res n) M') (hM : M'[n]? = some (.fz kvs o0)) (hbase : ∀ p, attributeBase e "items" (C.env p) (eval e (C.env p)) = eval e (C.env p) := by intro _; rfl) (hline : (apos.endLine == cpos.line) = true := by rfl) :
    ID C S M (.Tuple elts kk tpos) (.Call (.Attribute e "items" apos) [] [] cpos) (kvs.map pairK) (fun M => M[n]? = some (.fz kvs o0)) M' := fun w σ H hs hp R q => ⟨iItems (wE C e), fun X hX => by
  have pe := pe_w (e := e) hX
  cases hX with | mk p => exact pi_items pe (hbase p) hline, h w σ H hs hp _ fun w1 H1 y l s r => by
    rw [rep_res] at r
    obtain ⟨p, hp1, rfl⟩ := r
    obtain ⟨p', o', e1, e2, e3, od, ws, e4, kr⟩ := s.res hM
    rw [hp1] at e1; cases e1
    subst e3
    subst e4
    refine ⟨p, od, ws, rfl, e2, q w1 H1 _ l s fun i w2 H2 M2 l2 s2 h2 => ?_⟩
    obtain ⟨p2, o2, f1, f2, f3, od2, ws2, f4, kr2⟩ := s2.res h2
    rw [l2.at hp1] at f1; cases f1
    subst f3
    cases f4
    have hlen : ws.length = kvs.length := kr2.length
    refine ⟨fun hi => ⟨f2, by rw [hlen]; simpa using hi⟩, fun d hd => ?_⟩
    rw [List.getElem?_map] at hd
    cases hk : kvs[i]? with
    | none => rw [hk] at hd; cases hd
    | some kv =>
      rw [hk] at hd
      cases hd
      have hi : i < kvs.length := (List.getElem?_eq_some_iff.mp hk).1
      refine ⟨⟨f2, by omega⟩, fun x H3 hy => ?_⟩
      obtain ⟨T, k, v, hkv, rfl, hT, rfl⟩ := hy
      have ek : k = kv.1 := by
        have := congrArg (fun l => l[i]?) kr2.1
        simp only [List.getElem?_map, hkv, hk, Option.map_some, Option.some.injEq] at this
        exact this
      have rv : Rep C.K w2 kv.2 v := by
        obtain ⟨y, hy, ry⟩ := kr2.2.get (i := i) (d := kv.2) (by rw [List.getElem?_map, hk]; rfl)
        rw [List.getElem?_map, hkv] at hy
        cases hy
        exact ry
      obtain ⟨g, s4, r4⟩ := s2.put_tup (ds := [keyD kv.1, kv.2]) (ys := [kV k, v]) (reps_cons' (rep_key.mpr (by rw [ek])) (reps_cons' rv reps_nil')) hT
      exact ⟨_, g, s4, r4⟩⟩
/-- an expression while the dict n is locked -/
theorem ed_lock (hM : M[n]? = some (.dK kvs)) (h : ∀ o0, ED C S (M.set n (.fz kvs o0)) e d (M2.set n (.fz kvs o0))) (hM2 : M2[n]? = some (.dK kvs)) : ED C S M e d M2 := fun w σ H hs hr Q q => by
  obtain ⟨p, o, e1, e2, ws, rfl, kr⟩ := hs.res hM
  refine ⟨tLockE (fun σ H Q => ∃ o0, wE C e σ H Q ∧ o0 = H p), fun X hX => ?_, ?_⟩
  · exact pe_lock ⟨fun pins s σ H Q I ⟨_, h, _⟩ => (pe_w hX).run pins s σ H Q I h⟩
  · refine ⟨p, _, e2, trivial, fun od => ⟨_, ?_, rfl⟩⟩
    have hs1 := hs.chg (o := .frz od (.dK ws)) (mo := .fz kvs (.frz od (.dK ws))) e1 ⟨rfl, od, ws, rfl, kr⟩
    have g1 : Go w H w (upd H p (.frz od (.dK ws))) := Go.chg e1
    refine h (.frz od (.dK ws)) w σ _ hs1 (hr.go g1) _ fun w' H' y l s r => ?_
    have hn : n < M2.length := (List.getElem?_eq_some_iff.mp hM2).1
    obtain ⟨p2, o2, f1, f2, f3, od2, ws2, f4, kr2⟩ := s.res (n := n) (mo := .fz kvs (.frz od (.dK ws))) (by rw [List.getElem?_set_self hn])
    rw [l.le.at e1] at f1; cases f1
    subst f3
    cases f4
    refine ⟨f2, ?_⟩
    have s3 := s.chg (o := .dK ws) (mo := .dK kvs) (l.le.at e1) ⟨ws, rfl, kr2⟩
    have e5 : (M2.set n (.fz kvs (.frz od (.dK ws)))).set n (.dK kvs) = M2 := by
      rw [List.set_set]
      apply List.ext_getElem?
      intro i
      by_cases hi : n = i
      · subst hi
        rw [List.getElem?_set_self hn, hM2]
      · rw [List.getElem?_set_ne hi]
    rw [e5] at s3
    have g2 : Go w' H' w' (upd H' p (.dK ws)) := Go.chg (l.le.at e1)
    exact q w' _ y ((g1.trans l).trans g2) s3 (r.go g2)
/-- is the list not empty -/
theorem td_truth (h : ED C S M a d M1) (hv : LV M1 d ds) (he : ∀ p, ∀ whole, isTrue a (C.env p) whole = (do let v ← whole; standAt a.pos; holding [v] (truthy v)) := by intro _ _; rfl) : TD C S M a (!ds.isEmpty) M1 :=
  TD.of (t := fun σ H Q => wE C a σ H fun x H' => ∃ k, TruV C.K x H' k ∧ Q k H') (fun X hX => by
    have pe := pe_w (e := a) hX
    cases hX with | mk p => exact pt_truth pe (he p)) fun w σ H hs hr Q q => h w σ H hs hr _ fun w1 H1 y l s r => by
      obtain ⟨p, vs, rfl, st, rs⟩ := s.lv hv r
      refine ⟨!vs.isEmpty, .inl ⟨vs, st, rfl⟩, ?_⟩
      have e : vs.isEmpty = ds.isEmpty := by
        have := rs.length
        cases vs <;> cases ds <;> simp_all
      rw [e]
      exact q w1 H1 l s
/-- a comprehension in whose turns things are made; nobody changes the list -/
theorem ed_lcG (hc : C.calm = true) (hN : C.N.Nodup) (ok : ∀ p, BlkOk C.N (C.env p).scope scope own) (hi : ID C S M tg e items PM M1) (f : Nat → List D) (Ms : Nat → Mem) (h0 : Ms 0 = M1) (hpm : ∀ i, i ≤ items.length → PM (Ms i)) (hsz : items.length ≤ 100000)
    (ht : ∀ (i : Nat) (d : D), items[i]? = some d → LcTurn C scope (ownIx own) S tg elt ifs d (f i) (Ms i) (Ms (i + 1))) (hf : ∀ p, ∀ x, foldedSetIterable e (C.env p) x = pure x := by intro _ _; rfl) :
    ED C S M (.ListComp elt [⟨tg, e, ifs, 0⟩] scope pos) (.lst ((List.range items.length).map f).flatten) (Ms items.length) :=
  ED.of (pe_lcC hc hN ok hf) fun w σ H hsat hr Q q => lc_read hi f Ms h0 hpm hsz ht w σ H hsat hr Q fun w' H' p ys l s h1 h2 h3 h4 r =>
    q _ H' _ (l.fzn h2 h3) (s.fzn h1 h2 h4) (rep_lst.mpr ⟨p, ys, rfl, SqL.of upd_same, r.mono (Wd.le_put h2)⟩)
/-- type(x) is T -/
theorem ed_typeIs {T : String} (h : ED C S M a d M1) (t : String) (hm : C.mg "type" = none) (hm2 : ED C S M1 b (.v (.ty T)) M1) (ht : tyN d = t := by rfl) (hd : t = "int" ∨ t = "bool" ∨ t = "NoneType" ∨ t = "str" ∨ t = "tuple" ∨ t = "list" := by simp) (hg : ∀ p, (C.env p).kindOf "type" = some .globalImplicit := by intro _; rfl)
    (he : ∀ p, starEach [a] (C.env p) = (false, eval a (C.env p)) :: starEach [] (C.env p) := by intro _; rfl) : ED C S M (.Compare (.Call (.Name "type" p2) [a] [] pos) [.Is] [b] pos') (.v (.bl (decide (t = T)))) M1 :=
  ed_cmpR (r := fun x y H Q => ∃ a b, x = .ty a ∧ y = .ty b ∧ Q (.bl (decide (a = b))) H) (fun _ _ => op_isTyB)
    (ed_callTy (r := rTyp C.K) (d := .v (.ty t)) (fun X hX => by
      have z := call_type1 (X := X)
      cases hX with | mk p => exact z) (ad_cons h ad_nil he) (fun w H xs hs r Q q => by
      obtain ⟨y, rfl, r1⟩ := reps_one r
      refine ⟨y, t, rfl, ?_, q w H _ (.refl w) hs rep_v'⟩
      subst ht
      cases d with
      | v x =>
        rw [rep_v] at r1
        subst r1
        cases y with
        | non => exact .non
        | bl b => exact .bl b
        | int i => exact .int i
        | str x => exact .str x
        | byt _ => simp [tyN] at hd
        | flt _ => simp [tyN] at hd
        | ref _ => simp [tyN] at hd
        | ty _ => simp [tyN] at hd
      | tup ds =>
        obtain ⟨p, vs, rfl, st, _⟩ := hs.tupH r1
        exact .tup st
      | lst ds =>
        obtain ⟨p, vs, rfl, st, _⟩ := hs.lstH r1
        exact .lst st
      | res n => simp [tyN] at hd) hm (by decide +kernel) hg (by decide) (by decide) he) hm2 (fun w H x y hs hx hy Q q => by
      rw [rep_v] at hx hy
      exact ⟨_, _, hx, hy, q w H _ (.refl w) hs rep_v'⟩) (nomark _)
end
end DL
set_option maxHeartbeats 400000
namespace DL
open PySem PySem.Spec PyProof.Rows L2
theorem md_of {P : Program} {w : World} {K : PySem.W.Frag} {mg : Str → Option Value} {base : Heap} {k n : Nat} {m qual : Str} {params : Arguments} {body : List Stmt} {scope : Scope} {f : Spc} {fa Cl : Addr} {fd : FuncData} {N ps : List Str}
    (F : FunD K m qual params body scope [] [] fa fd) (hm : Meth K Cl m fa) (hc : Cls K Cl) (Sc : FnScope N ps scope) (hn : ps.length = n)
    (hb : ∀ (kV doc pm : Value) (an : Option Addr) (cdv ct : Value) (us : List Value), us.length = ps.length → bindArgs (PySem.W.fnOf m qual params body scope .none kV doc pm an cdv ct) ⟨us, []⟩ = pure (ps.zip us))
    (h : ∀ (A : Around) (ds : List D) (M : Mem) (r : Res), Room k A → ds.length = n → f ds M r → ∃ o, OutFit M o r ∧ SDs (fnC P w K mg base N qual scope A) (startS N ds) M body o) : MDf P w K mg base (k + 1) Cl m n f :=
  ⟨fa, fd, ps, fnok_ofJ F Sc hn h, hm, F.bindsN hb, hc⟩
end DL
namespace KS
open PySem PySem.Spec PyProof.Rows L2 DL
/-! ### shelves of a store -/
abbrev Shelf := List Int × List (List Int)
abbrev Dct := List (Str × Shelf)
def shD (s : Shelf) : D := .tup [tupI s.1, .lst (rowsD s.2)]
def dcD (d : Dct) : List (Key × D) := d.map fun p => (.inr p.1, shD p.2)
def getO (d : Dct) (k : Str) : Option Shelf := (d.find? fun p => decide (p.1 = k)).map (·.2)
def getS (n : Nat) (d : Dct) (k : Str) : Shelf := (getO d k).getD (List.replicate n 0, [])
def putS (d : Dct) (k : Str) (s : Shelf) : Dct := if (d.any fun p => decide (p.1 = k)) = true then d.map (fun p => if p.1 = k then (p.1, s) else p) else d ++ [(k, s)]
theorem inr_eq {a b : Str} : ((Sum.inr a : Key) = Sum.inr b) ↔ a = b := ⟨fun h => Sum.inr.inj h, fun h => congrArg _ h⟩
theorem valD_dc (d : Dct) (k : Str) : valD (dcD d) (.inr k) = (getO d k).map shD := by
  unfold valD getO dcD
  induction d with
  | nil => rfl
  | cons p d ih =>
    simp only [List.map_cons, List.find?_cons]
    by_cases h : p.1 = k
    · simp [h]
    · have h2 : ¬ ((Sum.inr p.1 : Key) = Sum.inr k) := fun z => h (inr_eq.mp z)
      simp only [h, h2, decide_false]
      exact ih
theorem putD_dc (d : Dct) (k : Str) (s : Shelf) : putD (dcD d) (.inr k) (shD s) = dcD (putS d k s) := by
  have e : ((dcD d).any fun kv => decide (kv.1 = (Sum.inr k : Key))) = d.any fun p => decide (p.1 = k) := by
    unfold dcD
    rw [List.any_map]
    congr 1
    funext p
    simp only [Function.comp, inr_eq]
  unfold putD putS
  rw [e]
  by_cases h : (d.any fun p => decide (p.1 = k)) = true
  · rw [if_pos h, if_pos h]
    unfold dcD
    rw [List.map_map, List.map_map]
    refine List.map_congr_left fun p _ => ?_
    by_cases h2 : p.1 = k
    · simp [h2]
    · have h3 : ¬ ((Sum.inr p.1 : Key) = Sum.inr k) := fun z => h2 (inr_eq.mp z)
      simp [h2, h3]
  · rw [if_neg h, if_neg h]
    unfold dcD
    rw [List.map_append]; rfl
theorem getO_put (d : Dct) (k k' : Str) (s : Shelf) : getO (putS d k s) k' = if k' = k then some s else getO d k' := by
  unfold putS
  by_cases h : (d.any fun p => decide (p.1 = k)) = true
  · rw [if_pos h]
    induction d with
    | nil => simp at h
    | cons p d ih =>
      unfold getO at ih ⊢
      simp only [List.map_cons, List.find?_cons]
      by_cases h2 : p.1 = k
      · subst h2
        by_cases h3 : k' = p.1
        · subst h3; simp
        · have h4 : ¬ p.1 = k' := fun z => h3 z.symm
          simp only [if_true, h4, decide_false, h3, if_false]
          by_cases h5 : (d.any fun q => decide (q.1 = p.1)) = true
          · rw [ih h5, if_neg h3]
          · congr 1
            have : d.map (fun q => if q.1 = p.1 then (q.1, s) else q) = d := by
              refine (List.map_congr_left fun q hq => ?_).trans (List.map_id _)
              by_cases h6 : q.1 = p.1
              · exact absurd (List.any_eq_true.mpr ⟨q, hq, by simpa using h6⟩) h5
              · simp [h6]
            rw [this]
      · simp only [h2, if_false]
        have h5 : (d.any fun q => decide (q.1 = k)) = true := by simpa [h2] using h
        by_cases h3 : p.1 = k'
        · subst h3
          simp [h2]
        · simp only [h3, decide_false]
          exact ih h5
  · rw [if_neg h]
    unfold getO
    rw [List.find?_append]
    by_cases h3 : k' = k
    · subst h3
      have : d.find? (fun p => decide (p.1 = k')) = none := List.find?_eq_none.mpr fun p hp => by
        intro z
        exact h (List.any_eq_true.mpr ⟨p, hp, z⟩)
      rw [this]
      simp
    · rw [if_neg h3]
      have : ([(k, s)] : Dct).find? (fun p => decide (p.1 = k')) = none := by
        have : ¬ k = k' := fun z => h3 z.symm
        simp [this]
      rw [this, Option.or_none]
theorem getS_put (n : Nat) (d : Dct) (k k' : Str) (s : Shelf) : getS n (putS d k s) k' = if k' = k then s else getS n d k' := by
  unfold getS
  rw [getO_put]
  split <;> rfl
theorem putS_len (d : Dct) (k : Str) (s : Shelf) : (putS d k s).length ≤ d.length + 1 := by
  unfold putS
  split
  · simp
  · simp
def blankI (n : Nat) : List Int := List.replicate n 0
def fldsD (n : Nat) (is : List Nat) : List (Str × D) := [("_blank", tupI (blankI n)), ("_shelves", .lst (is.map D.res))]
/-- a store stands in the memory: itself at i, its dicts at is -/
structure StoreAt (Cl : Addr) (M : Mem) (i : Nat) (is : List Nat) (ds : List Dct) : Prop where
  own : M[i]? = some (.ins Cl (fldsD ds.length is))
  len : is.length = ds.length
  nd : is.Nodup
  ne : i ∉ is
  at_ : ∀ (k x : Nat) (d : Dct), is[k]? = some x → ds[k]? = some d → M[x]? = some (.dK (dcD d))
theorem StoreAt.ext {Cl : Addr} {M J : Mem} {i : Nat} {is : List Nat} {ds : List Dct} (h : StoreAt Cl M i is ds) : StoreAt Cl (M ++ J) i is ds := by
  have e : ∀ {x : Nat} {mo : MO}, M[x]? = some mo → (M ++ J)[x]? = some mo := fun h => by
    rw [List.getElem?_append_left (List.getElem?_eq_some_iff.mp h).1]; exact h
  exact ⟨e h.own, h.len, h.nd, h.ne, fun k x d h1 h2 => e (h.at_ k x d h1 h2)⟩
/-- one dict changes -/
theorem StoreAt.put {Cl : Addr} {M : Mem} {i : Nat} {is : List Nat} {ds : List Dct} (h : StoreAt Cl M i is ds) {k x : Nat} {d : Dct} (hx : is[k]? = some x) : StoreAt Cl (M.set x (.dK (dcD d))) i is (ds.set k d) := by
  have hxi : x ≠ i := fun e => h.ne (e ▸ List.mem_of_getElem? hx)
  have hk : k < ds.length := by rw [← h.len]; exact (List.getElem?_eq_some_iff.mp hx).1
  refine ⟨by rw [List.getElem?_set_ne hxi, List.length_set]; exact h.own, by rw [List.length_set]; exact h.len, h.nd, h.ne, fun k' x' d' h1 h2 => ?_⟩
  by_cases e : k = k'
  · subst e
    rw [hx] at h1; cases h1
    rw [List.getElem?_set_self hk] at h2; cases h2
    have hxm : x < M.length := (List.getElem?_eq_some_iff.mp (h.at_ k x ds[k] hx (List.getElem?_eq_getElem hk))).1
    rw [List.getElem?_set_self hxm]
  · rw [List.getElem?_set_ne e] at h2
    have hne : x ≠ x' := fun z => by
      subst z
      obtain ⟨a1, b1⟩ := List.getElem?_eq_some_iff.mp hx
      obtain ⟨a2, b2⟩ := List.getElem?_eq_some_iff.mp h1
      exact e ((List.getElem_inj h.nd).mp (b1.trans b2.symm))
    rw [List.getElem?_set_ne hne]
    exact h.at_ k' x' d' h1 h2
/-- what is asked of a shelf of n keepers -/
structure GoodS (n : Nat) (s : Shelf) : Prop where
  len : s.1.length = n
  rows : RowsOf s.1 s.2
  few : s.2.length ≤ 900
theorem goodS_blank (n : Nat) : GoodS n (blankI n, []) := ⟨(by simp [blankI]), (fun x hx => nomatch hx), (by simp)⟩
def putShelf (s : Shelf) (m : List Int) (k : Nat) (v : Int) : Shelf := ((joinI s.1 m).set k (s.1.getD k 0 + 1), sortI (s.2.filter (unseenB m) ++ [[(k : Int), s.1.getD k 0 + 1, v]]))
def dropShelf (s : Shelf) (m : List Int) : Shelf := (joinI s.1 m, s.2.filter (unseenB m))
def valsI (L : List (List Int)) : List Int := L.map fun r => r.getD 2 0
/-- a store, a keeper of it, its dict -/
structure At (Cl : Addr) (M : Mem) (i k x n : Nat) (is : List Nat) (ds : List Dct) (d : Dct) : Prop where
  st : StoreAt Cl M i is ds
  hx : is[k]? = some x
  hd : ds[k]? = some d
  hn : ds.length = n
theorem At.lt {Cl : Addr} {M : Mem} {i k x n : Nat} {is : List Nat} {ds : List Dct} {d : Dct} (h : At Cl M i k x n is ds d) : k < n := by rw [← h.hn]; exact (List.getElem?_eq_some_iff.mp h.hd).1
theorem At.dict {Cl : Addr} {M : Mem} {i k x n : Nat} {is : List Nat} {ds : List Dct} {d : Dct} (h : At Cl M i k x n is ds d) : M[x]? = some (.dK (dcD d)) := h.st.at_ k x d h.hx h.hd
theorem At.ext {Cl : Addr} {M J : Mem} {i k x n : Nat} {is : List Nat} {ds : List Dct} {d : Dct} (h : At Cl M i k x n is ds d) : At Cl (M ++ J) i k x n is ds d := ⟨h.st.ext, h.hx, h.hd, h.hn⟩
theorem At.own {Cl : Addr} {M : Mem} {i k x n : Nat} {is : List Nat} {ds : List Dct} {d : Dct} (h : At Cl M i k x n is ds d) : M[i]? = some (.ins Cl (fldsD n is)) := by rw [← h.hn]; exact h.st.own
def sInit (Cl : Addr) : Spc := fun ds M r => ∃ (M0 : Mem) (n : Nat), M = M0 ++ [.ins Cl []] ∧ 1 ≤ n ∧ n ≤ 9 ∧ ds = [.res M0.length, dInt (n : Nat)] ∧ r = .ok (.v .non) (M0 ++ [.ins Cl (fldsD n ((List.range n).map fun j => M0.length + 1 + j))] ++ List.replicate n (.dK []))
def sNoKeeper (Cl : Addr) : Spc := fun ds M r => ∃ (i k n : Nat) (is : List Nat), M[i]? = some (.ins Cl (fldsD n is)) ∧ k < n ∧ ds = [.res i, dInt (k : Nat)] ∧ r = .ok (.v .non) M
def sShelfOf (Cl : Addr) : Spc := fun ds M r => ∃ (i k x n : Nat) (is : List Nat) (dc : List Dct) (d : Dct) (key : Str), At Cl M i k x n is dc d ∧ ds = [.res i, dInt (k : Nat), .v (.str key)] ∧ r = .ok (shD (getS n d key)) M
def sLook (Cl : Addr) : Spc := fun ds M r => ∃ (i k x n : Nat) (is : List Nat) (dc : List Dct) (d : Dct) (key : Str), At Cl M i k x n is dc d ∧ GoodS n (getS n d key) ∧ ds = [.res i, dInt (k : Nat), .v (.str key)] ∧
  (r = .ok (.tup [.lst (intsD (valsI (getS n d key).2)), tupI (getS n d key).1]) M ∨ r = .ok (.tup [.res M.length, tupI (getS n d key).1]) (M ++ [.lst (intsD (valsI (getS n d key).2))]))
def sIsMark : Spc := fun ds M r => ∃ (m : List Int) (n : Nat), ds = [tupI m, dInt (n : Nat)] ∧ m.length = n ∧ n ≤ 1000 ∧ (∀ x ∈ m, 0 ≤ x) ∧ r = .ok (.v (.bl true)) M
def sBadMark (Cl : Addr) : Spc := fun ds M r => ∃ (i n : Nat) (is : List Nat) (m : List Int), M[i]? = some (.ins Cl (fldsD n is)) ∧ n ≤ 9 ∧ ds = [.res i, tupI m] ∧ m.length = n ∧ (∀ x ∈ m, 0 ≤ x) ∧ r = .ok (.v .non) M
def sStPut (Cl : Addr) : Spc := fun ds M r => ∃ (i k x n : Nat) (is : List Nat) (dc : List Dct) (d : Dct) (key : Str) (v : Int) (m : List Int), At Cl M i k x n is dc d ∧ GoodS n (getS n d key) ∧ n ≤ 9 ∧ m.length = n ∧ (∀ x ∈ m, 0 ≤ x) ∧ d.length ≤ 1000 ∧ ds = [.res i, dInt (k : Nat), .v (.str key), dInt v, tupI m] ∧
  r = .ok (.v .non) (M.set x (.dK (dcD (putS d key (putShelf (getS n d key) m k v)))))
def sStDrop (Cl : Addr) : Spc := fun ds M r => ∃ (i k x n : Nat) (is : List Nat) (dc : List Dct) (d : Dct) (key : Str) (m : List Int), At Cl M i k x n is dc d ∧ GoodS n (getS n d key) ∧ n ≤ 9 ∧ m.length = n ∧ (∀ x ∈ m, 0 ≤ x) ∧ d.length ≤ 1000 ∧ ds = [.res i, dInt (k : Nat), .v (.str key), tupI m] ∧
  r = .ok (.v .non) (M.set x (.dK (dcD (putS d key (dropShelf (getS n d key) m)))))
def sDroppedF : Spc := fun ds M r => ∃ (a : List Int) (d : D) (L : List (List Int)) (m : List Int), ds = [.tup [tupI a, d], tupI m] ∧ LV M d (rowsD L) ∧ L.length ≤ 100000 ∧ RowsOf m L ∧ a.length = m.length ∧ a.length ≤ 1000 ∧
  r = .ok (.tup [tupI (joinI a m), .lst (rowsD (L.filter (unseenB m)))]) M
def sBlank0 : Spc := fun ds M r => ∃ n : Nat, ds = [dInt (n : Nat)] ∧ 1 ≤ n ∧ n ≤ 9 ∧ r = .ok (tupI (blankI n)) M
theorem fld_blank (n : Nat) (is : List Nat) : (fldsD n is).lookup ("_blank" : Str) = some (tupI (blankI n)) := rfl
theorem fld_shelves (n : Nat) (is : List Nat) : (fldsD n is).lookup ("_shelves" : Str) = some (D.lst (is.map D.res)) := by unfold fldsD; rfl
theorem is_at {is : List Nat} {k x : Nat} (h : is[k]? = some x) : atI (is.map D.res) ((k : Nat) : Int) = some (.res x) := atI_nat (by rw [List.getElem?_map, h]; rfl)
end KS
namespace DL
open PySem PySem.Spec PyProof.Rows L2
theorem ed_lcmR {C : Ctx} {S : DS} {M M1 : Mem} {tg e elt : Expr} {pos : Pos} {PM : Mem → Prop} {scope : Scope} {own : List (Str × Nat)} {α : Type} (xs : List α) (enc : α → D) (g : α → D) (hc : C.calm = true) (hN : C.N.Nodup) (ok : ∀ p, BlkOk C.N (C.env p).scope scope own) (hi : ID C S M tg e (xs.map enc) PM M1) (hpm : PM M1) (hsz : xs.length ≤ 100000)
    (ht : ∀ x, x ∈ xs → ∃ S1, GD (C.blk scope) (wipeD S (ownIx own)) tg (enc x) S1 (ownIx own) ∧ ED (C.blk scope) S1 M1 elt (g x) M1) (hf : ∀ p, ∀ x, foldedSetIterable e (C.env p) x = pure x := by intro _ _; rfl) :
    ED C S M (.ListComp elt [⟨tg, e, [], 0⟩] scope pos) (.res M1.length) (M1 ++ [.lst (xs.map g)]) := by
  have h := ed_lcR (pos := pos) (ifs := []) xs enc (fun _ => true) g hc hN ok hi hpm hsz (fun x hx => by
    obtain ⟨S1, hg, he⟩ := ht x hx
    exact ⟨S1, hg, tsd_nil, fun _ => he⟩) hf
  rwa [List.filter_eq_self.mpr (fun _ _ => rfl)] at h
end DL
namespace KS
open PySem PySem.Spec PyProof.Rows L2 DL
/-- what the written part says of the class Store -/
structure StC (K : PySem.W.Frag) (mg : Str → Option Value) (Cl : Addr) : Prop where
  c : Cls K Cl
  nb : NoAttr K Cl "_blank"
  ns : NoAttr K Cl "_shelves"
theorem shelf_at (n : Nat) (d : Dct) (k : Str) : (valD (dcD d) (.inr k)).getD (.tup [tupI (blankI n), .lst []]) = shD (getS n d k) := by
  rw [valD_dc]
  unfold getS
  cases getO d k with
  | none => rfl
  | some s => rfl
theorem init_mem {M0 : Mem} {Cl : Addr} (n : Nat) :
    (((M0 ++ [MO.ins Cl []]).set M0.length (.ins Cl (putFD "_blank" (tupI (blankI n)) []))) ++ List.replicate n (MO.dK [])).set M0.length (.ins Cl (putFD "_shelves" (.lst ((List.range n).map fun j => [D.res (M0.length + 1 + j)]).flatten) (putFD "_blank" (tupI (blankI n)) []))) =
      M0 ++ [.ins Cl (fldsD n ((List.range n).map fun j => M0.length + 1 + j))] ++ List.replicate n (MO.dK []) := by
  have e1 : (M0 ++ [MO.ins Cl []]).set M0.length (.ins Cl (putFD "_blank" (tupI (blankI n)) [])) = M0 ++ [.ins Cl (putFD "_blank" (tupI (blankI n)) [])] := by simp
  rw [e1, List.append_assoc, List.set_append_right _ _ (Nat.le_refl _), Nat.sub_self, List.append_assoc]
  have e2 : ((List.range n).map fun j => [D.res (M0.length + 1 + j)]).flatten = ((List.range n).map fun j => M0.length + 1 + j).map D.res := by
    rw [List.map_map]
    generalize List.range n = l
    induction l with
    | nil => rfl
    | cons a l ih => simp only [List.map_cons, List.flatten_cons, ih]; rfl
  rw [e2]
  rfl
theorem isMark_all {m : List Int} (h : ∀ x ∈ m, 0 ≤ x) : (m.map fun x => decide (0 ≤ x)).all id = true := by
  rw [List.all_map, List.all_eq_true]
  intro x hx
  simpa using h x hx
def sKeys1 (Cl : Addr) : Spc := fun ds M r => ∃ (i k x n : Nat) (is : List Nat) (dc : List Dct) (d : Dct), At Cl M i k x n is dc d ∧ d.length ≤ 1000 ∧ (d.filter fun p => !p.2.2.isEmpty).length ≤ 1 ∧ ds = [.res i, dInt (k : Nat)] ∧
  r = .ok (.lst ((d.filter fun p => !p.2.2.isEmpty).map fun p => .v (.str p.1))) M
theorem perm_one {α : Type} {ys xs : List α} (p : ys.Perm xs) (h : xs.length ≤ 1) : ys = xs := by
  cases xs with
  | nil => exact List.perm_nil.mp p
  | cons x xs =>
    cases xs with
    | nil => exact List.perm_singleton.mp p
    | cons _ _ => simp at h
/-- sorted of at most one text -/
theorem rc_sortS1 {C : DL.Ctx} {M : Mem} {d : D} {xs : List Str} (hv : LV M d (xs.map fun x => .v (.str x))) (hl : xs.length ≤ 1) : RC C (rSortedS C.K) M [d] (.lst (xs.map fun x => .v (.str x))) M := fun w H vs hs r Q q => by
  obtain ⟨y, rfl, r1⟩ := reps_one r
  obtain ⟨p, us, rfl, st, rs⟩ := hs.lv hv r1
  have e : (xs.map fun x => D.v (.str x)) = (xs.map V.str).map D.v := by rw [List.map_map]; rfl
  rw [e, reps_vs] at rs
  subst rs
  refine ⟨p, xs, rfl, st, by omega, fun ys l hp _ hl2 => ?_⟩
  have hy : ys = xs := perm_one hp hl
  subst hy
  obtain ⟨g, s4, r4⟩ := hs.put_lst (ds := ys.map fun x => D.v (.str x)) (ys := ys.map V.str) (by rw [e, reps_vs]) hl2
  exact q _ _ _ g s4 r4
theorem ed_sortS1 {C : DL.Ctx} {S : DS} {M M1 : Mem} {e : Expr} {d : D} {xs : List Str} {p2 pos : Pos} (h : ED C S M e d M1) (hv : LV M1 d (xs.map fun x => .v (.str x))) (hl : xs.length ≤ 1) (hm : C.mg "sorted" = none) (hg : ∀ p, (C.env p).kindOf "sorted" = some .globalImplicit := by intro _; rfl)
    (he : ∀ p, starEach [e] (C.env p) = (false, eval e (C.env p)) :: starEach [] (C.env p) := by intro _; rfl) : ED C S M (.Call (.Name "sorted" p2) [e] [] pos) (.lst (xs.map fun x => .v (.str x))) M1 :=
  ed_callB (r := rSortedS C.K) (fun X hX => by
    have z := cr_sortedS (X := X)
    cases hX with | mk p => exact z) (ad_cons h ad_nil he) (rc_sortS1 hv hl) hm boot_sorted hg (by decide) (by decide) he
end KS
namespace DL
open PySem PySem.Spec PyProof.Rows L2
theorem ed_lcGn {C : Ctx} {S : DS} {M M1 : Mem} {tg e elt : Expr} {ifs : List Expr} {items : List D} {pos : Pos} {PM : Mem → Prop} {scope : Scope} {own : List (Str × Nat)} {n : Nat} (hn : items.length = n) (hc : C.calm = true) (hN : C.N.Nodup) (ok : ∀ p, BlkOk C.N (C.env p).scope scope own) (hi : ID C S M tg e items PM M1) (f : Nat → List D) (Ms : Nat → Mem) (h0 : Ms 0 = M1) (hpm : ∀ i, i ≤ n → PM (Ms i)) (hsz : n ≤ 100000)
    (ht : ∀ (i : Nat) (d : D), items[i]? = some d → LcTurn C scope (ownIx own) S tg elt ifs d (f i) (Ms i) (Ms (i + 1))) (hf : ∀ p, ∀ x, foldedSetIterable e (C.env p) x = pure x := by intro _ _; rfl) :
    ED C S M (.ListComp elt [⟨tg, e, ifs, 0⟩] scope pos) (.lst ((List.range n).map f).flatten) (Ms n) := by
  subst hn
  exact ed_lcG hc hN ok hi f Ms h0 hpm hsz ht hf
end DL
set_option maxHeartbeats 400000
namespace DL
open PySem PySem.Spec PyProof.Rows L2
section
variable {C : Ctx} {S S' S1 : DS} {M M1 M2 M' : Mem} {a b e : Expr} {es : List Expr} {ds : List D} {d da db : D} {pos p2 : Pos} {k : Bool} {x y : Str}
/-! ### texts -/
theorem ed_addS (h1 : ED C S M a (.v (.str x)) M1) (h2 : ED C S M1 b (.v (.str y)) M2) (hl : x.length + y.length ≤ 100000) : ED C S M (.BinOp a .Add b pos) (.v (.str (x ++ y))) M2 :=
  ed_op (fun _ _ => op_add_str) h1 h2 fun w H u v hs hx hy Q q => by
    rw [rep_v] at hx hy
    exact ⟨x, y, hx, hy, sz hl, q w H _ (.refl w) hs rep_v'⟩
theorem ed_lenS (h : ED C S M e (.v (.str x)) M1) (hl : x.length ≤ 100000) (hm : C.mg "len" = none) (hg : ∀ p, (C.env p).kindOf "len" = some .globalImplicit := by intro _; rfl) (he : ∀ p, starEach [e] (C.env p) = (false, eval e (C.env p)) :: starEach [] (C.env p) := by intro _; rfl) :
    ED C S M (.Call (.Name "len" p2) [e] [] pos) (dInt (x.length : Nat)) M1 := ed_callB (fun _ _ => call_len_str) (ad_cons h ad_nil he) (fun w H xs hs r Q q => by
      obtain ⟨y, rfl, r1⟩ := reps_one r
      rw [rep_v] at r1
      exact ⟨x, by rw [r1], sz hl, q w H _ (.refl w) hs rep_v'⟩) hm boot_len hg (by decide) (by decide) he
theorem ed_intB (h : ED C S M e (.v (.bl k)) M1) (hm : C.mg "int" = none) (hg : ∀ p, (C.env p).kindOf "int" = some .globalImplicit := by intro _; rfl) (he : ∀ p, starEach [e] (C.env p) = (false, eval e (C.env p)) :: starEach [] (C.env p) := by intro _; rfl) :
    ED C S M (.Call (.Name "int" p2) [e] [] pos) (dInt (if k then 1 else 0)) M1 := ed_callTy (fun _ _ => call_int1) (ad_cons h ad_nil he) (fun w H xs hs r Q q => by
      obtain ⟨y, rfl, r1⟩ := reps_one r
      rw [rep_v] at r1
      exact .inr ⟨k, by rw [r1], q w H _ (.refl w) hs rep_v'⟩) hm boot_int hg (by decide) (by decide) he
/-! ### is None, is not None -/
theorem td_isN {v : V} {j : Nat} {q : Pos} (h : ED C S M a (.v v) M1) : TD C S M (.Compare a [.Is] [.Constant .none j q] pos) (decide (v = .non)) M1 :=
  td_cmpR (fun _ _ => op_isN) h ed_non (fun w H x y hs hx hy Q q => by
    rw [rep_v] at hx hy
    exact ⟨hy, by rw [hx]; exact q w H _ (.refl w) hs rep_v'⟩) (nomark _)
theorem td_notN {v : V} {j : Nat} {q : Pos} (h : ED C S M a (.v v) M1) : TD C S M (.Compare a [.IsNot] [.Constant .none j q] pos) (!decide (v = .non)) M1 :=
  td_cmpR (fun _ _ => op_notN) h ed_non (fun w H x y hs hx hy Q q => by
    rw [rep_v] at hx hy
    exact ⟨hy, by rw [hx]; exact q w H _ (.refl w) hs rep_v'⟩) (nomark _)
theorem ed_ixS {i : Int} {c : Nat} (h1 : ED C S M a (.v (.str x)) M1) (h2 : ED C S M1 b (dInt i) M2) (ha : atI x.cps.toList i = some c) (hz : x.length ≤ 100000) (hs : PlainIx b := by intro _ _; rfl) : ED C S M (.Subscript a b pos) (.v (.str ⟨#[c]⟩)) M2 :=
  ED.of (t := tOp rIxS (wE C a) (wE C b)) (fun X hX => pe_ix ix_str (pe_w hX) (pe_w hX) hs) (op_read rfl rfl h1 h2 fun w H u v hs hx hy Q q => by
      rw [rep_v] at hx hy
      exact ⟨x, i, c, hx, hy, sz hz, ha, q w H _ (.refl w) hs rep_v'⟩)
end
/-- a list that nobody changes any more is put among the known -/
theorem SatM.freeze {K : PySem.W.Frag} {w : Wd} {H : Hp} {M : Mem} {ds : List D} (s : SatM K w H (M ++ [.lst ds])) (hM : ∀ mo ∈ M, MO.under M.length mo) (hd : Ds.under M.length ds) :
    ∃ (p : Addr) (vs : List V), w.ρ[M.length]? = some p ∧ SatM K ⟨w.ρ.take M.length, upd w.F p (.lst vs)⟩ H M ∧ H p = some (.lst vs) ∧ w.F p = none ∧ Reps K ⟨w.ρ.take M.length, upd w.F p (.lst vs)⟩ ds vs := by
  obtain ⟨p, o, e1, e2, vs, rfl, r⟩ := s.res (n := M.length) (mo := .lst ds) (by simp)
  obtain ⟨hF, _⟩ := s.at_ M.length p (.lst ds) e1 (by simp)
  have s1 : SatM K (w.cut M.length) H M := s.forget hM
  have hp : p ∉ (w.cut M.length).ρ := fun hm => by
    obtain ⟨n, hn⟩ := List.getElem?_of_mem hm
    have hn' : (w.ρ.take M.length)[n]? = some p := hn
    have hlt : n < M.length := by
      have := (List.getElem?_eq_some_iff.mp hn').1
      rw [List.length_take] at this; omega
    rw [List.getElem?_take, if_pos hlt] at hn'
    obtain ⟨a1, b1⟩ := List.getElem?_eq_some_iff.mp e1
    obtain ⟨a2, b2⟩ := List.getElem?_eq_some_iff.mp hn'
    have := (List.getElem_inj s.nd).mp (b1.trans b2.symm)
    omega
  refine ⟨p, vs, e1, s1.fzn hp hF e2, e2, hF, ?_⟩
  exact (r.cut hd).mono (Wd.le_put (w := w.cut M.length) hF)
def frzD (n : Nat) (ds : List D) : Option D → Option D
  | some (.res m) => if m = n then some (.lst ds) else some (.res m)
  | x => x
def frzS (n : Nat) (ds : List D) (S : DS) : DS := S.map (frzD n ds)
def slotOk (n : Nat) : Option D → Prop
  | some (.res m) => m ≤ n
  | some d => D.under n d
  | none => True
theorem SDs.freeze {C : Ctx} {S0 S : DS} {M0 M : Mem} {sts : List Stmt} {ds : List D} (h : SDs C S0 M0 sts (.nx S (M ++ [.lst ds]))) (hl : M0.length ≤ M.length) (hM : ∀ mo ∈ M, mo ∈ M0 ∨ MO.under M.length mo) (hd : Ds.under M.length ds) (hS : ∀ x ∈ S, slotOk M.length x) :
    SDs C S0 M0 sts (.nx (frzS M.length ds S) M) := fun W E w σ H hs hr q => h W E w σ H hs hr fun w' H' σ' l s r => by
  have hM' : ∀ mo ∈ M, MO.under M.length mo := fun mo hm => by
    rcases hM mo hm with z | z
    · exact MO.under_mono hl (hs.under z)
    · exact z
  obtain ⟨p, vs, e1, s2, hp, hF, rd⟩ := s.freeze hM' hd
  have hlw : w.ρ.length ≤ M.length := by rw [hs.len]; exact hl
  have hnp : p ∉ w.ρ := fun hm => by
    obtain ⟨n, hn⟩ := List.getElem?_of_mem hm
    have hlt := (List.getElem?_eq_some_iff.mp hn).1
    obtain ⟨a1, b1⟩ := List.getElem?_eq_some_iff.mp e1
    obtain ⟨a2, b2⟩ := List.getElem?_eq_some_iff.mp (l.le.at hn)
    have := (List.getElem_inj s.nd).mp (b1.trans b2.symm)
    omega
  have hHp : H p = none := by
    rcases l.newR p (List.mem_of_getElem? e1) with z | z
    · exact absurd z hnp
    · exact z
  have g1 : Go w H (w'.cut M.length) H' := l.cut hlw
  refine q _ H' σ' (g1.fzn hF hHp) s2 ⟨by simpa [frzS] using r.len, fun i d e => ?_⟩
  unfold frzS at e
  rw [List.getElem?_map] at e
  cases hi : S[i]? with
  | none => rw [hi] at e; cases e
  | some x =>
    rw [hi] at e
    have hx := hS x (List.mem_of_getElem? hi)
    cases x with
    | none => cases e
    | some d0 =>
      obtain ⟨y, ey, ry⟩ := r.get i d0 hi
      refine ⟨y, ey, ?_⟩
      have lift : ∀ {d : D}, D.under M.length d → Rep C.K w' d y → Rep C.K (Wd.put (w'.cut M.length) p (.lst vs)) d y := fun hu rr => (rr.cut hu).mono (Wd.le_put (w := w'.cut M.length) hF)
      cases d0 with
      | res m =>
        simp only [frzD, Option.map_some, Option.some.injEq] at e
        by_cases hm : m = M.length
        · rw [if_pos hm] at e
          cases e
          rw [rep_res] at ry
          obtain ⟨p', e2, rfl⟩ := ry
          rw [hm, e1] at e2; cases e2
          exact rep_lst.mpr ⟨p, vs, rfl, .of upd_same, rd⟩
        · rw [if_neg hm] at e
          cases e
          have hx' : m ≤ M.length := hx
          exact lift (by unfold D.under; omega) ry
      | v x =>
        simp only [frzD, Option.map_some, Option.some.injEq] at e
        cases e
        exact lift hx ry
      | tup x =>
        simp only [frzD, Option.map_some, Option.some.injEq] at e
        cases e
        exact lift hx ry
      | lst x =>
        simp only [frzD, Option.map_some, Option.some.injEq] at e
        cases e
        exact lift hx ry
end DL
set_option maxHeartbeats 400000
namespace DL
open PySem PySem.Spec PyProof.Rows L2
/-! ### plain data of some depth: == is equality -/
def atomD : D → Bool
  | .v .non => true
  | .v (.int _) => true
  | .v (.str x) => PyData.strOk x
  | _ => false
def plD : Nat → D → Prop
  | 0, d => atomD d = true
  | n + 1, d => atomD d = true ∨ ∃ ds, (d = .tup ds ∨ d = .lst ds) ∧ ∀ x ∈ ds, plD n x
theorem plD.atom {d : D} (h : atomD d = true) : ∀ {n : Nat}, plD n d
  | 0 => h
  | _ + 1 => .inl h
theorem plD.int {n : Nat} {i : Int} : plD n (dInt i) := .atom rfl
theorem plD.non {n : Nat} : plD n (.v .non) := .atom rfl
theorem plD.str {n : Nat} {x : Str} (h : PyData.strOk x = true) : plD n (.v (.str x)) := plD.atom (d := .v (.str x)) h
theorem plD.tup {n : Nat} {ds : List D} (h : ∀ x ∈ ds, plD n x) : plD (n + 1) (.tup ds) := .inr ⟨ds, .inl rfl, h⟩
theorem plD.lst {n : Nat} {ds : List D} (h : ∀ x ∈ ds, plD n x) : plD (n + 1) (.lst ds) := .inr ⟨ds, .inr rfl, h⟩
theorem plD.nil {n : Nat} : ∀ x ∈ ([] : List D), plD n x := fun _ h => nomatch h
theorem plD.cons {n : Nat} {d : D} {ds : List D} (h : plD n d) (t : ∀ x ∈ ds, plD n x) : ∀ x ∈ d :: ds, plD n x := fun x hx => by
  rcases List.mem_cons.mp hx with rfl | hx
  · exact h
  · exact t x hx
theorem plD.maps {α : Type} {n : Nat} {f : α → D} {xs : List α} (h : ∀ x ∈ xs, plD n (f x)) : ∀ x ∈ xs.map f, plD n x := fun x hx => by
  obtain ⟨y, hy, rfl⟩ := List.mem_map.mp hx
  exact h y hy
theorem pyds_map : ∀ ds : List D, pyds ds = ds.map pyd
  | [] => rfl
  | d :: ds => by rw [pyds, pyds_map ds]; rfl
theorem flatDs_of : ∀ {ds : List D}, (∀ x ∈ ds, flatD x = true) → flatDs ds = true
  | [], _ => rfl
  | d :: ds, h => by
    rw [flatDs, h d List.mem_cons_self, flatDs_of fun x hx => h x (List.mem_cons_of_mem _ hx)]; rfl
theorem canAll_of : ∀ {ps : List PyData}, (∀ x ∈ ps, PyData.canLay0 x = true) → PyData.canLayAll0 ps = true
  | [], _ => rfl
  | d :: ds, h => by
    rw [PyData.canLayAll0, h d List.mem_cons_self, canAll_of fun x hx => h x (List.mem_cons_of_mem _ hx)]; rfl
theorem depthAll_of {n : Nat} : ∀ {ps : List PyData}, (∀ x ∈ ps, PyData.depth x ≤ n) → PyData.depthAll ps ≤ n
  | [], _ => Nat.zero_le _
  | d :: ds, h => by
    rw [PyData.depthAll]
    have h1 := h d List.mem_cons_self
    have h2 := depthAll_of fun x hx => h x (List.mem_cons_of_mem _ hx)
    omega
theorem atom_flat {d : D} (h : atomD d = true) : flatD d = true ∧ PyData.canLay0 (pyd d) = true ∧ PyData.depth (pyd d) = 0 := by
  match d, h with
  | .v .non, _ => exact ⟨rfl, rfl, rfl⟩
  | .v (.int _), _ => exact ⟨rfl, rfl, rfl⟩
  | .v (.str x), h => exact ⟨rfl, h, rfl⟩
theorem plD.facts : ∀ {n : Nat} {d : D}, plD n d → flatD d = true ∧ PyData.canLay0 (pyd d) = true ∧ PyData.depth (pyd d) ≤ n
  | 0, d, h => by
    obtain ⟨h1, h2, h3⟩ := atom_flat h
    exact ⟨h1, h2, by omega⟩
  | n + 1, d, h => by
    rcases h with h | ⟨ds, e, h⟩
    · obtain ⟨h1, h2, h3⟩ := atom_flat h
      exact ⟨h1, h2, by omega⟩
    · have k1 : flatDs ds = true := flatDs_of fun x hx => (plD.facts (h x hx)).1
      have k2 : PyData.canLayAll0 (pyds ds) = true := canAll_of fun x hx => by
        rw [pyds_map] at hx
        obtain ⟨y, hy, rfl⟩ := List.mem_map.mp hx
        exact (plD.facts (h y hy)).2.1
      have k3 : PyData.depthAll (pyds ds) ≤ n := depthAll_of fun x hx => by
        rw [pyds_map] at hx
        obtain ⟨y, hy, rfl⟩ := List.mem_map.mp hx
        exact (plD.facts (h y hy)).2.2
      rcases e with rfl | rfl
      · exact ⟨by rw [flatD]; exact k1, by rw [pyd, PyData.canLay0]; exact k2, by rw [pyd, PyData.depth]; omega⟩
      · exact ⟨by rw [flatD]; exact k1, by rw [pyd, PyData.canLay0]; exact k2, by rw [pyd, PyData.depth]; omega⟩
theorem plD.shp {n : Nat} {d : D} (h : plD n d) (hn : n ≤ 64 := by decide) : SeqAt.shaped (pyd d) = true := by
  obtain ⟨_, h2, h3⟩ := h.facts
  unfold SeqAt.shaped
  rw [h2, Bool.true_and, decide_eq_true_eq]
  omega
theorem plD.ok {n : Nat} {d : D} (h : plD n d) (hn : n ≤ 64 := by decide) : CmpOk d := ⟨h.facts.1, h.shp hn⟩
theorem plD.mono {n : Nat} {d : D} (h : plD n d) : ∀ {m : Nat}, n ≤ m → plD m d := by
  have key : ∀ {n : Nat} {d : D}, plD n d → plD (n + 1) d := fun {n} => by
    induction n with
    | zero => exact fun h => .inl h
    | succ n ih =>
      rintro d (h | ⟨ds, e, h⟩)
      · exact .inl h
      · exact .inr ⟨ds, e, fun x hx => ih (h x hx)⟩
  intro m hm
  induction m with
  | zero =>
    have : n = 0 := by omega
    subst this; exact h
  | succ m ih =>
    by_cases e : n = m + 1
    · subst e; exact h
    · exact key (ih (by omega))
theorem eqv_atom {a b : D} (ha : atomD a = true) (hb : atomD b = true) : PyData.eqv (pyd a) (pyd b) = true ↔ a = b := by
  match a, ha, b, hb with
  | .v .non, _, .v .non, _ => simp [pyd, PyData.eqv]
  | .v .non, _, .v (.int _), _ => simp [pyd, PyData.eqv]
  | .v .non, _, .v (.str _), _ => simp [pyd, PyData.eqv]
  | .v (.int _), _, .v .non, _ => simp [pyd, PyData.eqv]
  | .v (.int _), _, .v (.int _), _ => simp [pyd, PyData.eqv]
  | .v (.int _), _, .v (.str _), _ => simp [pyd, PyData.eqv]
  | .v (.str _), _, .v .non, _ => simp [pyd, PyData.eqv]
  | .v (.str _), _, .v (.int _), _ => simp [pyd, PyData.eqv]
  | .v (.str _), _, .v (.str _), _ => simp [pyd, PyData.eqv]
theorem eqv_atom_tup {a : D} {ds : List D} (ha : atomD a = true) : PyData.eqv (pyd a) (pyd (.tup ds)) = false ∧ PyData.eqv (pyd (.tup ds)) (pyd a) = false ∧ PyData.eqv (pyd a) (pyd (.lst ds)) = false ∧ PyData.eqv (pyd (.lst ds)) (pyd a) = false ∧ a ≠ .tup ds ∧ a ≠ .lst ds := by
  match a, ha with
  | .v .non, _ => simp [pyd, PyData.eqv]
  | .v (.int _), _ => simp [pyd, PyData.eqv]
  | .v (.str _), _ => simp [pyd, PyData.eqv]
theorem eqvAll_of : ∀ {xs ys : List D}, (∀ x ∈ xs, ∀ y ∈ ys, PyData.eqv (pyd x) (pyd y) = true ↔ x = y) → (PyData.eqvAll (pyds xs) (pyds ys) = true ↔ xs = ys)
  | [], [], _ => by simp [pyds, PyData.eqvAll]
  | [], _ :: _, _ => by simp [pyds, PyData.eqvAll]
  | _ :: _, [], _ => by simp [pyds, PyData.eqvAll]
  | x :: xs, y :: ys, h => by
    rw [pyds, pyds, PyData.eqvAll, Bool.and_eq_true, h x List.mem_cons_self y List.mem_cons_self, eqvAll_of fun a ha b hb => h a (List.mem_cons_of_mem _ ha) b (List.mem_cons_of_mem _ hb)]
    simp
theorem plD.eqv : ∀ {n m : Nat} {a b : D}, plD n a → plD m b → (PyData.eqv (pyd a) (pyd b) = true ↔ a = b) := by
  have key : ∀ (n : Nat) {a b : D}, plD n a → plD n b → (PyData.eqv (pyd a) (pyd b) = true ↔ a = b) := by
    intro n
    induction n with
    | zero => exact fun ha hb => eqv_atom ha hb
    | succ n ih =>
      rintro a b (ha | ⟨xs, ea, ha⟩) (hb | ⟨ys, eb, hb⟩)
      · exact eqv_atom ha hb
      · obtain ⟨h1, h2, h3, h4, h5, h6⟩ := eqv_atom_tup (ds := ys) ha
        rcases eb with rfl | rfl
        · simp [h1, h5]
        · simp [h3, h6]
      · obtain ⟨h1, h2, h3, h4, h5, h6⟩ := eqv_atom_tup (ds := xs) hb
        rcases ea with rfl | rfl
        · simp only [h2, Bool.false_eq_true, false_iff]; exact fun e => h5 e.symm
        · simp only [h4, Bool.false_eq_true, false_iff]; exact fun e => h6 e.symm
      · have k := eqvAll_of (xs := xs) (ys := ys) fun x hx y hy => ih (ha x hx) (hb y hy)
        rcases ea with rfl | rfl <;> rcases eb with rfl | rfl
        · simp only [pyd, PyData.eqv, k, D.tup.injEq]
        · simp [pyd, PyData.eqv]
        · simp [pyd, PyData.eqv]
        · simp only [pyd, PyData.eqv, k, D.lst.injEq]
  intro n m a b ha hb
  exact key (max n m) (ha.mono (Nat.le_max_left _ _)) (hb.mono (Nat.le_max_right _ _))
theorem plD.refl {n : Nat} {a : D} (h : plD n a) : PyData.eqv (pyd a) (pyd a) = true := (h.eqv h).mpr rfl
theorem plD.fz {n : Nat} {d : D} (h : plD n d) : D.fz d = true := flat_fz h.facts.1
theorem cm_pl {K : PySem.W.Frag} {M : Mem} {d : D} {ds : List D} {n : Nat} (hv : LV M d ds) (h : plD n (.lst ds)) : CmpM K M d (pyd (.lst ds)) := by
  have hf : flatD (.lst ds) = true := h.facts.1
  rw [pyd]
  exact cm_V hv (cms_flat (by simpa [flatD] using hf))
theorem plD.cm {K : PySem.W.Frag} {M : Mem} {d : D} {n : Nat} (h : plD n d) : CmpM K M d (pyd d) := cm_flat h.facts.1
theorem pl_ints {n : Nat} (xs : List Int) : plD (n + 1) (.lst (intsD xs)) := .lst (.maps fun _ _ => .int)
theorem pl_tupI {n : Nat} (xs : List Int) : plD (n + 1) (tupI xs) := .tup (.maps fun _ _ => .int)
theorem pl_rows {n : Nat} (L : List (List Int)) : plD (n + 2) (.lst (rowsD L)) := .lst (.maps fun _ _ => pl_tupI _)
theorem pl_rowsT {n : Nat} (L : List (List Int)) : plD (n + 2) (.tup (rowsD L)) := .tup (.maps fun _ _ => pl_tupI _)
end DL
set_option maxHeartbeats 400000
namespace KS
open PySem PySem.Spec PyProof.Rows L2 DL
/-! ### law 07: values, keys -/
def val7 (few : Bool) (c : Int) : Int := if few then c / 14 % 2 else c * 48271 % (2 * 10 ^ 60 - 1) - (10 ^ 60 - 1)
def sVal7 : Spc := fun ds M r => ∃ (c : Int) (few : Bool), ds = [dInt c, .v (.bl few)] ∧ r = .ok (dInt (val7 few c)) M
def keyChars : Str := " abcdefghijklmnopqrstuvwxyzABCDEFGHIJKLMNOPQRSTUVWXYZ0123456789.,:;-+*/=<>?!#&()[]{}~^_@"
theorem keyChars_len : keyChars.length = 88 ∧ keyChars.cps.toList.length = 88 := by decide +kernel
def chK (c : Int) (k : Nat) : Nat := keyChars.cps.toList.getD ((c / 13 + 7 * (k : Int)) % 88).toNat 0
theorem chK_ok (c : Int) (k : Nat) : atI keyChars.cps.toList ((c / 13 + 7 * (k : Int)) % ((keyChars.length : Nat) : Int)) = some (chK c k) := by
  obtain ⟨h1, h2⟩ := keyChars_len
  rw [h1]
  have a := Int.emod_nonneg (c / 13 + 7 * (k : Int)) (b := ((88 : Nat) : Int)) (by omega)
  have b := Int.emod_lt_of_pos (c / 13 + 7 * (k : Int)) (b := ((88 : Nat) : Int)) (by omega)
  unfold chK
  generalize e : (c / 13 + 7 * (k : Int)) % ((88 : Nat) : Int) = z at a b
  obtain ⟨m, rfl⟩ := Int.eq_ofNat_of_zero_le a
  refine atI_nat ?_
  have hm : m < keyChars.cps.toList.length := by rw [h2]; omega
  rw [Int.toNat_natCast, List.getD_eq_getElem?_getD, List.getElem?_eq_getElem hm]; rfl
def keyTo (c : Int) : Nat → Str
  | 0 => ""
  | k + 1 => keyTo c k ++ ⟨#[chK c k]⟩
theorem keyTo_len (c : Int) : ∀ k, (keyTo c k).length = k
  | 0 => by rfl
  | k + 1 => by
    have := keyTo_len c k
    show (keyTo c k ++ (⟨#[chK c k]⟩ : Str)).length = k + 1
    rw [show (keyTo c k ++ (⟨#[chK c k]⟩ : Str)).length = (keyTo c k).length + 1 from by
      show ((keyTo c k).cps ++ #[chK c k]).size = (keyTo c k).cps.size + 1
      simp]
    rw [this]
def keyT (c : Int) : Str := keyTo c (c % 13).toNat
def sKey : Spc := fun ds M r => ∃ c : Int, ds = [dInt c] ∧ r = .ok (.v (.str (keyT c))) M
/-! ### what is told -/
def markP (n k : Nat) (p : Int) : List Int := (List.range n).map fun j => p * (if j = k then 1 else 0)
def sTold : Spc := fun ds M r => ∃ (dl dv : D) (vs : List Int) (n k : Nat) (p : Int), ds = [.tup [dl, tupI (markP n k p)], dv, dInt (n : Nat), dInt (k : Nat), dInt p] ∧ LV M dl (intsD vs) ∧ LV M dv (intsD vs) ∧ vs.length ≤ 1000 ∧ n ≤ 9 ∧ r = .ok (.v (.bl true)) M
theorem ints_shaped (vs : List Int) : SeqAt.shaped (.list (pyds (intsD vs))) = true := by
  obtain ⟨h1, h2⟩ := intsD_can vs
  unfold SeqAt.shaped
  simp [PyData.canLay0, PyData.depth, h1, h2]
theorem ints_eqv (a b : List Int) : PyData.eqv (.list (pyds (intsD a))) (.list (pyds (intsD b))) = decide (a = b) := by simp only [PyData.eqv, intsD_eqv]
theorem cm_ints {K : PySem.W.Frag} {M : Mem} {d : D} {vs : List Int} (hv : LV M d (intsD vs)) : CmpM K M d (.list (pyds (intsD vs))) := cm_V hv (cms_flat (intsD_flat vs))
/-! ### a keeper's own shelf -/
def rowQ (k : Nat) (q : Int × Int) : List Int := [(k : Int), q.1, q.2]
def shQ (n k : Nat) (p : Int) (st : List (Int × Int)) : Shelf := (markP n k p, st.map (rowQ k))
theorem markP_len (n k : Nat) (p : Int) : (markP n k p).length = n := by simp [markP]
theorem markP_at {n k : Nat} (h : k < n) (p : Int) : (markP n k p).getD k 0 = p := by simp [markP, h]
theorem markP_zero (n k : Nat) : markP n k 0 = blankI n := by
  unfold markP blankI
  simp only [Int.zero_mul]
  rw [List.map_const', List.length_range]
theorem markP_getD (n k j : Nat) (p : Int) : (markP n k p).getD j 0 = if j < n ∧ j = k then p else 0 := by
  by_cases h : j < n
  · by_cases e : j = k
    · subst e; simp [markP, h]
    · simp [markP, h, e]
  · simp [markP, h]
theorem markP_join {n k : Nat} {p l : Int} (h : l ≤ p) (h0 : 0 ≤ l) : joinI (markP n k p) (markP n k l) = markP n k p := by
  have e : (markP n k p).length = (markP n k l).length := by rw [markP_len, markP_len]
  refine ext_getD (by rw [joinI_len e]) fun j => ?_
  rw [joinI_getD e, markP_getD, markP_getD]
  split
  · omega
  · omega
theorem markP_set {n k : Nat} (h : k < n) (p q : Int) : (markP n k p).set k q = markP n k q := by
  refine ext_getD (by rw [List.length_set, markP_len, markP_len]) fun j => ?_
  rw [markP_getD]
  by_cases e : k = j
  · subst e
    have : k < (markP n k p).length := by rw [markP_len]; exact h
    simp [h, this]
  · have h2 : ¬ (j < n ∧ j = k) := fun z => e z.2.symm
    rw [if_neg h2]
    have h3 := markP_getD n k j p
    rw [if_neg h2] at h3
    simp only [List.getD_eq_getElem?_getD, List.getElem?_set_ne e] at h3 ⊢
    exact h3
/-- the puts stand in their order, each no later than p -/
structure OkQ (p : Int) (st : List (Int × Int)) : Prop where
  le : ∀ q ∈ st, 1 ≤ q.1 ∧ q.1 ≤ p
  asc : st.Pairwise fun a b => a.1 < b.1
  few : st.length ≤ p.toNat
theorem OkQ.filter {p : Int} {st : List (Int × Int)} (h : OkQ p st) (f : Int × Int → Bool) : OkQ p (st.filter f) := ⟨fun q hq => h.le q (List.mem_filter.mp hq).1, h.asc.filter f, Nat.le_trans (List.length_filter_le _ _) h.few⟩
theorem OkQ.add {p : Int} {st : List (Int × Int)} (h : OkQ p st) (hp : 0 ≤ p) (v : Int) : OkQ (p + 1) (st ++ [(p + 1, v)]) := by
  refine ⟨fun q hq => ?_, List.pairwise_append.mpr ⟨h.asc, List.pairwise_singleton _ _, fun a ha b hb => ?_⟩, ?_⟩
  · rcases List.mem_append.mp hq with hq | hq
    · have := h.le q hq; omega
    · have : q = (p + 1, v) := by simpa using hq
      subst this
      exact ⟨by show 1 ≤ p + 1; omega, by show p + 1 ≤ p + 1; omega⟩
  · have : b = (p + 1, v) := by simpa using hb
    subst this
    have := h.le a ha
    show a.1 < p + 1
    omega
  · rw [List.length_append, List.length_singleton]
    have := h.few
    omega
theorem rows_asc {k : Nat} {st : List (Int × Int)} (h : st.Pairwise fun a b => a.1 < b.1) : Asc (st.map (rowQ k)) := by
  refine List.pairwise_map.mpr (h.imp fun {a b} hab => ?_)
  simp only [rowQ, HT.lexLt_cons, if_true]
  rw [if_neg (by omega)]
  exact decide_eq_false (by omega)
def seenQ (l : Int) (q : Int × Int) : Bool := decide (l < q.1)
theorem unseen_rowQ {n k : Nat} (h : k < n) (l : Int) (q : Int × Int) : unseenB (markP n k l) (rowQ k q) = seenQ l q := by
  have e : (markP n k l)[k]? = some l := by
    have h2 : k < (markP n k l).length := by rw [markP_len]; exact h
    rw [get_getD h2, markP_at h]
  unfold rowQ
  rw [unseenB_of e]
  unfold seenQ
  rw [Bool.eq_iff_iff]; simp
theorem filter_rowQ {n k : Nat} (h : k < n) (l : Int) (st : List (Int × Int)) : (st.map (rowQ k)).filter (unseenB (markP n k l)) = (st.filter (seenQ l)).map (rowQ k) := by
  rw [List.filter_map]
  congr 1
  exact List.filter_congr fun q _ => unseen_rowQ h l q
theorem putQ {n k : Nat} (h : k < n) {p l v : Int} {st : List (Int × Int)} (ok : OkQ p st) (h0 : 0 ≤ l) (hl : l ≤ p) : putShelf (shQ n k p st) (markP n k l) k v = shQ n k (p + 1) (st.filter (seenQ l) ++ [(p + 1, v)]) := by
  unfold putShelf shQ
  simp only [markP_join hl h0, markP_set h, markP_at h, filter_rowQ h]
  have e : (st.filter (seenQ l)).map (rowQ k) ++ [[(k : Int), p + 1, v]] = (st.filter (seenQ l) ++ [(p + 1, v)]).map (rowQ k) := by rw [List.map_append]; rfl
  rw [e, sortI_of_asc (rows_asc ((ok.filter (seenQ l)).add (by omega) v).asc)]
theorem dropQ {n k : Nat} (h : k < n) {p l : Int} {st : List (Int × Int)} (h0 : 0 ≤ l) (hl : l ≤ p) : dropShelf (shQ n k p st) (markP n k l) = shQ n k p (st.filter (seenQ l)) := by
  unfold dropShelf shQ
  simp only [markP_join hl h0, filter_rowQ h]
theorem goodQ {n k : Nat} (h : k < n) {p : Int} {st : List (Int × Int)} (ok : OkQ p st) (hp : p ≤ 900) : GoodS n (shQ n k p st) := by
  refine ⟨markP_len _ _ _, fun x hx => ?_, ?_⟩
  · obtain ⟨q, hq, rfl⟩ := List.mem_map.mp hx
    have h2 : k < (markP n k p).length := by rw [markP_len]; exact h
    exact ⟨k, q.1, q.2, _, rfl, get_getD h2⟩
  · show (st.map (rowQ k)).length ≤ 900
    rw [List.length_map]
    have := ok.few
    omega
theorem valsQ (k : Nat) (st : List (Int × Int)) : valsI (st.map (rowQ k)) = st.map (·.2) := by
  unfold valsI
  rw [List.map_map]; rfl
end KS
set_option maxHeartbeats 400000
namespace KS
open PySem PySem.Spec PyProof.Rows L2 DL
def lookD (n k : Nat) (l : Nat) : D := .tup [tupI (markP n k l), dInt (l : Nat)]
def looksD (n k : Nat) (lk : List Nat) : List D := lk.map (lookD n k)
def pqI (q : Int × Int) : List Int := [q.1, q.2]
abbrev standD (st : List (Int × Int)) : List D := st.map fun q => tupI (pqI q)
structure Q7 where
  p : Nat
  st : List (Int × Int)
  lk : List Nat
  d : Dct
structure Ok7 (n k : Nat) (key : Str) (q : Q7) : Prop where
  ok : OkQ q.p q.st
  lk : ∀ l ∈ q.lk, l ≤ q.p
  ne : q.lk ≠ []
  d : (q.d = [] ∧ q.p = 0 ∧ q.st = []) ∨ q.d = [(key, shQ n k q.p q.st)]
theorem Ok7.get {n k : Nat} {key : Str} {q : Q7} (h : Ok7 n k key q) : getS n q.d key = shQ n k q.p q.st := by
  rcases h.d with ⟨h1, h2, h3⟩ | h1
  · rw [h1, h2, h3]
    show (List.replicate n 0, []) = (markP n k ((0 : Nat) : Int), [])
    rw [show ((0 : Nat) : Int) = 0 from rfl, markP_zero]; rfl
  · rw [h1]
    unfold getS getO
    simp
theorem Ok7.put {n k : Nat} {key : Str} {q : Q7} (h : Ok7 n k key q) (s : Shelf) : putS q.d key s = [(key, s)] := by
  rcases h.d with ⟨h1, _, _⟩ | h1
  · rw [h1]; rfl
  · rw [h1]
    unfold putS
    simp
theorem Ok7.len {n k : Nat} {key : Str} {q : Q7} (h : Ok7 n k key q) : q.d.length ≤ 1 := by
  rcases h.d with ⟨h1, _, _⟩ | h1
  · rw [h1]; simp
  · rw [h1]; simp
/-- which look is taken -/
def sel7 (c : Int) (lk : List Nat) : Nat := if c % 2 = 1 then lk.getD (c / 14 % ((lk.length : Nat) : Int)).toNat 0 else lk.getLastD 0
theorem sel7_mem {c : Int} {lk : List Nat} (h : lk ≠ []) : sel7 c lk ∈ lk := by
  have hl : 0 < lk.length := List.length_pos_iff.mpr h
  unfold sel7
  split
  · have a := Int.emod_nonneg (c / 14) (b := ((lk.length : Nat) : Int)) (by omega)
    have b := Int.emod_lt_of_pos (c / 14) (b := ((lk.length : Nat) : Int)) (by omega)
    have hi : (c / 14 % ((lk.length : Nat) : Int)).toNat < lk.length := by omega
    rw [List.getD_eq_getElem?_getD, List.getElem?_eq_getElem hi]
    exact List.getElem_mem hi
  · rw [List.getLastD_eq_getLast?, List.getLast?_eq_getLast h]
    exact List.getLast_mem h
theorem looks_at {n k : Nat} {lk : List Nat} {i : Int} (h0 : 0 ≤ i) (h1 : i < lk.length) : atI (looksD n k lk) i = some (lookD n k (lk.getD i.toNat 0)) := by
  obtain ⟨m, rfl⟩ := Int.eq_ofNat_of_zero_le h0
  refine atI_nat ?_
  have hm : m < lk.length := by omega
  unfold looksD
  rw [List.getElem?_map, List.getElem?_eq_getElem hm, Int.toNat_natCast, List.getD_eq_getElem?_getD, List.getElem?_eq_getElem hm]; rfl
theorem looks_last {n k : Nat} {lk : List Nat} (h : lk ≠ []) : atI (looksD n k lk) (-1) = some (lookD n k (lk.getLastD 0)) := by
  have hl : 0 < lk.length := List.length_pos_iff.mpr h
  unfold atI ixN
  rw [if_neg (by omega)]
  have hz : (looksD n k lk).length = lk.length := by simp [looksD]
  rw [hz, if_pos (by omega)]
  simp only [Option.bind_some]
  have e : (-1 + (lk.length : Int)).toNat = lk.length - 1 := by omega
  rw [e]
  unfold looksD
  rw [List.getElem?_map, List.getLastD_eq_getLast?, List.getLast?_eq_getElem?]
  have hm : lk.length - 1 < lk.length := by omega
  rw [List.getElem?_eq_getElem hm]; rfl
def st7 (few : Bool) (c : Int) (q : Q7) : List (Int × Int) := if c / 2 % 7 = 3 then q.st.filter (seenQ (sel7 c q.lk)) else q.st.filter (seenQ (sel7 c q.lk)) ++ [((q.p : Int) + 1, val7 few c)]
def p7 (c : Int) (q : Q7) : Nat := if c / 2 % 7 = 3 then q.p else q.p + 1
def step7 (few : Bool) (key : Str) (n k : Nat) (c : Int) (q : Q7) : Q7 := ⟨p7 c q, st7 few c q, q.lk ++ [p7 c q], [(key, shQ n k (p7 c q) (st7 few c q))]⟩
theorem step7_ok {few : Bool} {key : Str} {n k : Nat} {c : Int} {q : Q7} (h : Ok7 n k key q) : Ok7 n k key (step7 few key n k c q) := by
  refine ⟨?_, fun l hl => ?_, by simp [step7], .inr rfl⟩
  · show OkQ (p7 c q) (st7 few c q)
    unfold p7 st7
    split
    · exact h.ok.filter _
    · have := (h.ok.filter (seenQ (sel7 c q.lk))).add (by omega) (val7 few c)
      simpa using this
  · have hp : q.p ≤ p7 c q := by unfold p7; split <;> omega
    rcases List.mem_append.mp hl with hl | hl
    · exact Nat.le_trans (h.lk l hl) hp
    · have : l = p7 c q := by simpa using hl
      subst this
      exact Nat.le_refl _
theorem step7_p (few : Bool) (key : Str) (n k : Nat) (c : Int) (q : Q7) : (step7 few key n k c q).p ≤ q.p + 1 := by
  show p7 c q ≤ _
  unfold p7; split <;> omega
/-- the memory: the store's own, its dict at x, the looks -/
def mem7 (M1 : Mem) (x n k : Nat) (q : Q7) : Mem := M1.set x (.dK (dcD q.d)) ++ [.lst (looksD n k q.lk)]
theorem mem7_len (M1 : Mem) (x n k : Nat) (q : Q7) : (mem7 M1 x n k q).length = M1.length + 1 := by simp [mem7]
theorem mem7_looks (M1 : Mem) (x n k : Nat) (q : Q7) (J : Mem) : (mem7 M1 x n k q ++ J)[M1.length]? = some (.lst (looksD n k q.lk)) := by simp [mem7]
theorem mem7_put {M1 : Mem} {x n k : Nat} {q : Q7} {d' : Dct} {J : Mem} (hx : x < M1.length) : (mem7 M1 x n k q ++ J).set x (.dK (dcD d')) = mem7 M1 x n k { q with d := d' } ++ J := by
  unfold mem7
  rw [List.append_assoc, List.set_append_left _ _ (by rw [List.length_set]; exact hx), List.set_set, List.append_assoc]
theorem mem7_app {M1 : Mem} {x n k : Nat} {q : Q7} {lk' : List Nat} {J : Mem} : (mem7 M1 x n k q ++ J).set M1.length (.lst (looksD n k lk')) = mem7 M1 x n k { q with lk := lk' } ++ J := by
  unfold mem7
  rw [List.append_assoc, List.set_append_right _ _ (by rw [List.length_set]; exact Nat.le_refl _), List.length_set, Nat.sub_self, List.append_assoc]
  rfl
/-- where the store stands: itself at i, the keeper's dict at x -/
structure Base7 (Cl : Addr) (M1 : Mem) (i x n k : Nat) (is : List Nat) : Prop where
  st : StoreAt Cl M1 i is (List.replicate n [])
  hx : is[k]? = some x
  hk : k < n
  xl : x < M1.length
theorem Base7.at {Cl : Addr} {M1 : Mem} {i x n k : Nat} {is : List Nat} (b : Base7 Cl M1 i x n k is) (q : Q7) (J : Mem) : At Cl (mem7 M1 x n k q ++ J) i k x n is ((List.replicate n []).set k q.d) q.d := by
  refine ⟨?_, b.hx, ?_, by simp⟩
  · unfold mem7
    rw [List.append_assoc]
    exact (b.st.put b.hx).ext
  · rw [List.getElem?_set_self (by simpa using b.hk)]
/-- a keeper whose dict is empty -/
theorem Base7.other {Cl : Addr} {M1 : Mem} {i x n k j : Nat} {is : List Nat} (b : Base7 Cl M1 i x n k is) (q : Q7) (J : Mem) (hj : j < n) (hne : j ≠ k) : ∃ y, At Cl (mem7 M1 x n k q ++ J) i j y n is ((List.replicate n []).set k q.d) [] := by
  have hl : is.length = n := by rw [b.st.len]; simp
  refine ⟨is[j]'(by omega), ?_, List.getElem?_eq_getElem (by omega), ?_, by simp⟩
  · unfold mem7
    rw [List.append_assoc]
    exact (b.st.put b.hx).ext
  · rw [List.getElem?_set_ne (fun z => hne z.symm)]
    simp [hj]
theorem looksD_fz (n k : Nat) : ∀ lk : List Nat, Ds.fz (looksD n k lk) = true
  | [] => rfl
  | l :: lk => by
    have := looksD_fz n k lk
    unfold looksD at this ⊢
    simp only [List.map_cons]
    unfold Ds.fz
    rw [this]
    unfold lookD D.fz Ds.fz
    rw [tupI_fz]
    rfl
theorem dcD_fz : ∀ d : Dct, Ds.fz ((dcD d).map (·.2)) = true
  | [] => rfl
  | p :: d => by
    have := dcD_fz d
    unfold dcD at this ⊢
    simp only [List.map_cons]
    unfold Ds.fz
    rw [this, show D.fz (shD p.2) = true from shelf_fz _ _]
    rfl
theorem standD_fz (st : List (Int × Int)) : Ds.fz (standD st) = true := by
  have e : standD st = rowsD (st.map pqI) := by unfold standD rowsD; rw [List.map_map]; rfl
  rw [e]
  exact rowsD_fz _
theorem mem7_under {M1 : Mem} {x n k : Nat} {q q' : Q7} (hx : x < M1.length) : ∀ mo ∈ mem7 M1 x n k q', mo ∈ mem7 M1 x n k q ∨ MO.under (mem7 M1 x n k q').length mo := fun mo hm => by
  rcases List.mem_append.mp hm with hm | hm
  · obtain ⟨i, hi⟩ := List.getElem?_of_mem hm
    by_cases e : x = i
    · subst e
      rw [List.getElem?_set_self hx] at hi
      cases hi
      exact .inr (Ds.fz_under (dcD_fz _))
    · rw [List.getElem?_set_ne e] at hi
      refine .inl (List.mem_append_left _ (List.mem_of_getElem? (i := i) ?_))
      rw [List.getElem?_set_ne e]; exact hi
  · have : mo = .lst (looksD n k q'.lk) := by simpa using hm
    subst this
    exact .inr (Ds.fz_under (looksD_fz _ _ _))
end KS
namespace DL
open PySem PySem.Spec PyProof.Rows L2
theorem sd_setLcRf {C : Ctx} {S : DS} {M M1 : Mem} {tg e elt : Expr} {ifs : List Expr} {pos py spos : Pos} {PM : Mem → Prop} {scope : Scope} {own : List (Str × Nat)} {y : Str} {α : Type} (j : Nat) (xs : List α) (enc : α → D) (p : α → Bool) (g : α → D) (hc : C.calm = true) (hN : C.N.Nodup) (ok : ∀ p, BlkOk C.N (C.env p).scope scope own) (hi : ID C S M tg e (xs.map enc) PM M1) (hpm : PM M1) (hsz : xs.length ≤ 100000)
    (ht : ∀ x, x ∈ xs → ∃ S1, GD (C.blk scope) (wipeD S (ownIx own)) tg (enc x) S1 (ownIx own) ∧ TsD (C.blk scope) S1 M1 ifs (p x) M1 ∧ (p x = true → ED (C.blk scope) S1 M1 elt (g x) M1)) (hy : C.N[j]? = some y := by rfl) (hyl : ∀ p, (C.env p).scope.names.lookup y = some .local := by intro _; rfl)
    (hsw : ∀ p, swapsWith (.ListComp elt [⟨tg, e, ifs, 0⟩] scope pos) (some (.Name y py)) spos.line (C.env p) = pure true := by intro _; exact sw_true rfl rfl rfl (by decide +kernel)) (hf : ∀ p, ∀ x, foldedSetIterable e (C.env p) x = pure x := by intro _ _; rfl) :
    SD C S M (.Assign [.Name y py] (.ListComp elt [⟨tg, e, ifs, 0⟩] scope pos) spos) (.nx (S.set j (some (.res M1.length))) (M1 ++ [.lst ((xs.filter p).map g)])) := by
  rw [← lc_out (items := xs.map enc) (xs := xs) (enc := enc) (p := p) (g := g) rfl]
  exact sd_setLcR0 j hc hN ok hi _ (fun _ => M1) rfl (fun _ _ => hpm) (by simpa using hsz) (lc_turns ht) hy hyl hsw hf
end DL
namespace KS
open PySem PySem.Spec PyProof.Rows L2 DL
theorem mem7_last (M1 : Mem) (x n k : Nat) (q : Q7) (mo : MO) : (mem7 M1 x n k q ++ [mo])[M1.length + 1]? = some mo := by simp [mem7]
theorem mem7_stand (M1 : Mem) (x n k : Nat) (q : Q7) (mo mo' : MO) : (mem7 M1 x n k q ++ [mo]).set (M1.length + 1) mo' = mem7 M1 x n k q ++ [mo'] := by
  have h := mem7_len M1 x n k q
  rw [List.set_append_right _ _ (by omega), h, Nat.sub_self]; rfl
theorem markP_nonneg {n k : Nat} {l : Int} (h : 0 ≤ l) : ∀ x ∈ markP n k l, 0 ≤ x := fun x hx => by
  unfold markP at hx
  obtain ⟨j, _, rfl⟩ := List.mem_map.mp hx
  split
  · omega
  · omega
theorem looks_app (n k : Nat) (lk : List Nat) (p : Nat) : looksD n k lk ++ [lookD n k p] = looksD n k (lk ++ [p]) := by unfold looksD; rw [List.map_append]; rfl
theorem stand_app (st : List (Int × Int)) (q : Int × Int) : standD st ++ [tupI (pqI q)] = standD (st ++ [q]) := by unfold standD; rw [List.map_append]; rfl
theorem stand_vals (st : List (Int × Int)) : st.map (fun q => dInt q.2) = intsD (st.map (·.2)) := by unfold intsD; rw [List.map_map]; rfl
def S7 (s : List Int) (n k : Nat) (key : Str) (i L : Nat) (few : Bool) (q : Q7) : DS := [some (.lst (intsD s)), some (dInt (n : Nat)), some (dInt (k : Nat)), some (.v (.str key)), some (.res i), some (.res L), some (.lst (standD q.st)), some (dInt (q.p : Nat)), some (.v (.bl few)), none, none, none, none, none, none, none, none]
end KS
namespace KS
open PySem PySem.Spec PyProof.Rows L2 DL
theorem so_fz {n : Nat} {d : D} (h : D.fz d = true) : slotOk n (some d) := by
  cases d with
  | res m => unfold D.fz at h; cases h
  | v x => exact D.fz_under h
  | tup x => exact D.fz_under h
  | lst x => exact D.fz_under h
theorem ints_fz (vs : List Int) : D.fz (.lst (intsD vs)) = true := by
  unfold D.fz
  exact flats_fz (intsD_flat vs)
theorem look_fz (n k l : Nat) : D.fz (lookD n k l) = true := by
  have h := looksD_fz n k [l]
  unfold looksD at h
  simp only [List.map_cons, List.map_nil] at h
  unfold Ds.fz at h
  exact ((Bool.and_eq_true _ _).mp h).1
theorem told_fz (vs m : List Int) : D.fz (.tup [.lst (intsD vs), tupI m]) = true := by
  unfold D.fz Ds.fz
  rw [ints_fz]
  unfold Ds.fz
  rw [tupI_fz]
  unfold Ds.fz
  rfl
theorem so_cons {n : Nat} {x : Option D} {S : DS} (h : slotOk n x) (t : ∀ y ∈ S, slotOk n y) : ∀ y ∈ x :: S, slotOk n y := fun y hy => by
  rcases List.mem_cons.mp hy with rfl | hy
  · exact h
  · exact t y hy
theorem so_nil {n : Nat} : ∀ y ∈ ([] : DS), slotOk n y := fun y hy => nomatch hy
end KS
set_option maxHeartbeats 400000
namespace DL
open PySem PySem.Spec PyProof.Rows L2
theorem reps_rep {K : PySem.W.Frag} {w : Wd} {ds : List D} {vs : List V} (r : Reps K w ds vs) : ∀ n : Nat, Reps K w (List.replicate n ds).flatten (List.replicate n vs).flatten
  | 0 => reps_nil'
  | n + 1 => by
    rw [List.replicate_succ, List.replicate_succ, List.flatten_cons, List.flatten_cons]
    exact r.append (reps_rep r n)
theorem ed_repR {C : Ctx} {S : DS} {M M1 M2 : Mem} {a b : Expr} {ds : List D} {pos : Pos} {n : Nat} {i : Int} (h1 : ED C S M a (.res n) M1) (h2 : ED C S M1 b (dInt i) M2) (hM : M2[n]? = some (.lst ds)) (h0 : 0 ≤ i) (hi : i ≤ 1000) (hl : ds.length ≤ 100) : ED C S M (.BinOp a .Mult b pos) (.lst (List.replicate i.toNat ds).flatten) M2 :=
  ed_op (r := rRep) (fun _ _ => op_rep) h1 h2 fun w H x y hs hx hy Q q => by
    obtain ⟨p, vs, _, rfl, e, rs⟩ := hs.resL hx hM
    rw [rep_v] at hy
    refine ⟨p, i, vs, rfl, hy, e, by omega, by omega, ?_, fun l hl2 => ?_⟩
    · rw [rs.length]
      have h3 : i.toNat ≤ 1000 := by omega
      exact Nat.le_trans (Nat.mul_le_mul hl h3) (by decide)
    · obtain ⟨g, s4, r4⟩ := hs.put_lst (reps_rep rs i.toNat) hl2
      exact q _ _ _ g s4 r4
end DL
namespace KS
open PySem PySem.Spec PyProof.Rows L2 DL
/-! ### the puts ahead -/
def pre7 (key : Str) (n k : Nat) : Nat → Q7
  | 0 => ⟨0, [], [0], []⟩
  | j + 1 => ⟨j + 1, (pre7 key n k j).st ++ [((j : Int) + 1, 7 - (j : Int))], [0], [(key, shQ n k ((j + 1 : Nat) : Int) ((pre7 key n k j).st ++ [((j : Int) + 1, 7 - (j : Int))]))]⟩
theorem pre7_p (key : Str) (n k : Nat) : ∀ j, (pre7 key n k j).p = j
  | 0 => rfl
  | _ + 1 => rfl
theorem pre7_lk (key : Str) (n k : Nat) : ∀ j, (pre7 key n k j).lk = [0]
  | 0 => rfl
  | _ + 1 => rfl
theorem pre7_st (key : Str) (n k : Nat) : ∀ j, (pre7 key n k j).st = (List.range j).map fun (i : Nat) => ((i : Int) + 1, 7 - (i : Int))
  | 0 => rfl
  | j + 1 => by
    show (pre7 key n k j).st ++ [((j : Int) + 1, 7 - (j : Int))] = _
    rw [pre7_st key n k j, List.range_succ, List.map_append]; rfl
theorem pre7_ok (key : Str) (n k : Nat) : ∀ j, Ok7 n k key (pre7 key n k j)
  | 0 => ⟨⟨(fun q hq => nomatch hq), List.Pairwise.nil, Nat.zero_le _⟩, fun l hl => by
    have : l = 0 := by simpa [pre7] using hl
    subst this; exact Nat.le_refl _, by simp [pre7], .inl ⟨rfl, rfl, rfl⟩⟩
  | j + 1 => by
    have h := pre7_ok key n k j
    have hj := pre7_p key n k j
    refine ⟨?_, fun l hl => ?_, by simp [pre7], .inr rfl⟩
    · have h2 := h.ok
      rw [hj] at h2
      have := h2.add (by omega) (7 - (j : Int))
      show OkQ ((j + 1 : Nat) : Int) _
      rw [show ((j + 1 : Nat) : Int) = (j : Int) + 1 by omega]
      exact this
    · have : l = 0 := by simpa [pre7] using hl
      subst this; exact Nat.zero_le _
theorem pre7_all {key : Str} {n k : Nat} (j : Nat) : (pre7 key n k j).st.filter (seenQ 0) = (pre7 key n k j).st := List.filter_eq_self.mpr fun q hq => by
  have := ((pre7_ok key n k j).ok.le q hq).1
  unfold seenQ
  exact decide_eq_true (by omega)
theorem pre7_put {key : Str} {n k : Nat} (hk : k < n) (j : Nat) : putS (pre7 key n k j).d key (putShelf (getS n (pre7 key n k j).d key) (blankI n) k (7 - (j : Int))) = (pre7 key n k (j + 1)).d := by
  have h := pre7_ok key n k j
  have hj := pre7_p key n k j
  have ho := h.ok
  rw [hj] at ho
  rw [h.put, h.get, hj, ← markP_zero n k, putQ hk ho (Int.le_refl 0) (by omega), pre7_all]
  rfl
/-! ### the turns -/
def it7 (few : Bool) (key : Str) (n k : Nat) (q0 : Q7) (cs : List Int) (j : Nat) : Q7 := (cs.take j).foldl (fun q c => step7 few key n k c q) q0
theorem it7_succ {few : Bool} {key : Str} {n k : Nat} {q0 : Q7} {cs : List Int} {j : Nat} {c : Int} (h : cs[j]? = some c) : it7 few key n k q0 cs (j + 1) = step7 few key n k c (it7 few key n k q0 cs j) := by
  unfold it7
  rw [List.take_succ, h, List.foldl_append]; rfl
theorem fold7_ok {few : Bool} {key : Str} {n k : Nat} : ∀ (cs : List Int) (q : Q7), Ok7 n k key q → Ok7 n k key (cs.foldl (fun q c => step7 few key n k c q) q) ∧ (cs.foldl (fun q c => step7 few key n k c q) q).p ≤ q.p + cs.length ∧ (cs.foldl (fun q c => step7 few key n k c q) q).lk.length = q.lk.length + cs.length
  | [], q, h => ⟨h, Nat.le_refl _, rfl⟩
  | c :: cs, q, h => by
    obtain ⟨h1, h2, h3⟩ := fold7_ok cs (step7 few key n k c q) (step7_ok h)
    have hp := step7_p few key n k c q
    have hl : (step7 few key n k c q).lk.length = q.lk.length + 1 := by simp [step7]
    refine ⟨h1, ?_, ?_⟩
    · simp only [List.foldl_cons, List.length_cons]; omega
    · simp only [List.foldl_cons, List.length_cons]; omega
theorem it7_ok {few : Bool} {key : Str} {n k : Nat} {q0 : Q7} {cs : List Int} (h : Ok7 n k key q0) (hc : cs.length ≤ 40) (j : Nat) : Ok7 n k key (it7 few key n k q0 cs j) ∧ (it7 few key n k q0 cs j).p ≤ q0.p + 40 ∧ (it7 few key n k q0 cs j).lk.length ≤ q0.lk.length + 40 := by
  obtain ⟨h1, h2, h3⟩ := fold7_ok (few := few) (cs.take j) q0 h
  have hl : (cs.take j).length ≤ 40 := by rw [List.length_take]; omega
  exact ⟨h1, Nat.le_trans h2 (by omega), Nat.le_trans (Nat.le_of_eq h3) (by omega)⟩
/-! ### the store's beginning -/
theorem base7 {Cl : Addr} {M : Mem} {n k : Nat} (hk : k < n) : Base7 Cl (M ++ [.ins Cl (fldsD n ((List.range n).map fun j => M.length + 1 + j))] ++ List.replicate n (.dK [])) M.length (M.length + 1 + k) n k ((List.range n).map fun j => M.length + 1 + j) := by
  refine ⟨⟨?_, by simp, ?_, ?_, fun j x d h1 h2 => ?_⟩, ?_, hk, ?_⟩
  · rw [List.length_replicate, List.getElem?_append_left (by simp), List.getElem?_append_right (Nat.le_refl _)]; simp
  · refine List.pairwise_map.mpr (List.nodup_range.imp fun {a b} h e => h (by omega))
  · intro hm
    obtain ⟨j, _, e⟩ := List.mem_map.mp hm
    omega
  · rw [List.getElem?_map] at h1
    cases hj : (List.range n)[j]? with
    | none => rw [hj] at h1; cases h1
    | some j' =>
      rw [hj] at h1
      obtain ⟨hlt, e⟩ := List.getElem?_eq_some_iff.mp hj
      have ej : j' = j := by rw [← e]; simp
      subst ej
      have hx : x = M.length + 1 + j' := by simpa using h1.symm
      subst hx
      have hn : j' < n := by simpa using hlt
      have hd : d = [] := by
        rw [List.getElem?_replicate, if_pos hn] at h2
        cases h2; rfl
      subst hd
      rw [List.getElem?_append_right (by simp)]
      simp [hn]; rfl
  · rw [List.getElem?_map, List.getElem?_range hk]; rfl
  · simp; omega
theorem mem7_start {Cl : Addr} {M1 : Mem} {i x n k : Nat} {is : List Nat} (b : Base7 Cl M1 i x n k is) : mem7 M1 x n k ⟨0, [], [0], []⟩ = M1 ++ [.lst [lookD n k 0]] := by
  have h : M1[x]? = some (.dK (dcD [])) := b.st.at_ k x [] b.hx (by rw [List.getElem?_replicate, if_pos b.hk])
  have e : M1.set x (.dK (dcD [])) = M1 := by
    apply List.ext_getElem?
    intro j
    by_cases hj : x = j
    · subst hj
      rw [List.getElem?_set_self b.xl, h]
    · rw [List.getElem?_set_ne hj]
  unfold mem7
  rw [e]; rfl
theorem mem7_put0 {M1 : Mem} {x n k : Nat} {q : Q7} {d' : Dct} (hx : x < M1.length) : (mem7 M1 x n k q).set x (.dK (dcD d')) = mem7 M1 x n k { q with d := d' } := by
  have h := mem7_put (M1 := M1) (n := n) (k := k) (q := q) (d' := d') (J := []) hx
  rwa [List.append_nil, List.append_nil] at h
theorem Base7.at0 {Cl : Addr} {M1 : Mem} {i x n k : Nat} {is : List Nat} (b : Base7 Cl M1 i x n k is) (q : Q7) : At Cl (mem7 M1 x n k q) i k x n is ((List.replicate n []).set k q.d) q.d := by
  have h := b.at q []
  rwa [List.append_nil] at h
theorem Base7.other0 {Cl : Addr} {M1 : Mem} {i x n k j : Nat} {is : List Nat} (b : Base7 Cl M1 i x n k is) (q : Q7) (hj : j < n) (hne : j ≠ k) : ∃ y, At Cl (mem7 M1 x n k q) i j y n is ((List.replicate n []).set k q.d) [] := by
  have h := b.other q [] hj hne
  rwa [List.append_nil] at h
theorem getS_else {n k : Nat} {key key' : Str} {q : Q7} (h : Ok7 n k key q) (hne : key' ≠ key) : getS n q.d key' = (blankI n, []) := by
  rcases h.d with ⟨h1, _, _⟩ | h1
  · rw [h1]; rfl
  · rw [h1]
    have : ¬ key = key' := fun z => hne z.symm
    unfold getS getO
    simp [this]; rfl
theorem key_longer (x : Str) : x ++ ("'" : Str) ≠ x := fun h => by
  have := congrArg (fun z : Str => z.cps.size) h
  have e : (x ++ ("'" : Str)).cps.size = x.cps.size + 1 := by
    show (x.cps ++ ("'" : Str).cps).size = _
    rw [Array.size_append]; rfl
  have h3 : (x ++ ("'" : Str)).cps.size = x.cps.size := this
  omega
end KS
namespace DL
open PySem PySem.Spec PyProof.Rows L2
theorem sd_forSn {C : Ctx} {S : DS} {M M1 : Mem} {body : List Stmt} {tg e : Expr} {items : List D} {pos : Pos} {PM : Mem → Prop} {n : Nat} (hn : items.length = n) (hi : ID C S M tg e items PM M1) (hc : C.calm = true) (Ss : Nat → DS) (Ms : Nat → Mem) (hS : Ss 0 = S) (hM : Ms 0 = M1) (hpm : ∀ i, i ≤ n → PM (Ms i))
    (hs : ∀ (i : Nat) (d : D), items[i]? = some d → ∃ S1 vs S2, GD C (Ss i) tg d S1 vs ∧ (SDs C S1 (Ms i) body (.nx S2 (Ms (i + 1))) ∨ SDs C S1 (Ms i) body (.ct S2 (Ms (i + 1)))) ∧ Ge S2 (Ss (i + 1))) (hf : ∀ p, ∀ x, foldedSetIterable e (C.env p) x = pure x := by intro _ _; rfl) :
    SD C S M (.For tg e body [] pos) (.nx (Ss n) (Ms n)) := by
  subst hn
  exact sd_forS hi hc Ss Ms hS hM hpm hs hf
theorem nil_ok : CmpOk (.lst []) := ⟨rfl, by decide⟩
end DL
namespace KS
open PySem PySem.Spec PyProof.Rows L2 DL
theorem keyT_len (c : Int) : (keyT c).length ≤ 12 := by
  unfold keyT
  rw [keyTo_len]
  have h1 := Int.emod_lt_of_pos c (b := 13) (by decide)
  omega
theorem pre7_stand (key : Str) (n k j : Nat) : (List.range j).map (fun (i : Nat) => tupI (pqI ((i : Int) + 1, 7 - (i : Int)))) = standD (pre7 key n k j).st := by
  rw [pre7_st]
  unfold standD
  rw [List.map_map]; rfl
theorem pre7_at {key : Str} {n k j i : Nat} {d : D} (h : (standD (pre7 key n k j).st)[i]? = some d) : i < j ∧ d = tupI (pqI ((i : Int) + 1, 7 - (i : Int))) := by
  rw [← pre7_stand, List.getElem?_map] at h
  by_cases hi : i < j
  · rw [List.getElem?_range hi] at h
    exact ⟨hi, by simpa using h.symm⟩
  · rw [List.getElem?_eq_none (by simpa using hi)] at h
    cases h
theorem blank_nonneg (n : Nat) : ∀ x ∈ blankI n, 0 ≤ x := fun x hx => by
  have := List.eq_of_mem_replicate hx
  omega
theorem blank_len (n : Nat) : (blankI n).length = n := by simp [blankI]
/-- what is left behind is forgotten -/
theorem mem7_split {M T : Mem} {y n k : Nat} {q : Q7} {J : Mem} : ∃ J', mem7 (M ++ T) (M.length + y) n k q ++ J = M ++ J' := by
  unfold mem7
  rw [List.set_append_right _ _ (Nat.le_add_right _ _)]
  exact ⟨_, by rw [List.append_assoc, List.append_assoc]⟩
theorem keys7 {n k : Nat} {key : Str} {q : Q7} (h : Ok7 n k key q) : (q.d.filter fun p => !p.2.2.isEmpty).map (fun p => D.v (.str p.1)) = (List.replicate (if (!decide (q.st = [])) then (1 : Int) else 0).toNat [D.v (.str key)]).flatten := by
  rcases h.d with ⟨h1, _, h3⟩ | h1
  · rw [h1, h3]; rfl
  · rw [h1]
    by_cases e : q.st = []
    · rw [e]; rfl
    · have : (q.st.map (rowQ k)).isEmpty = false := by
        cases hq : q.st with
        | nil => exact absurd hq e
        | cons a l => rfl
      simp [shQ, this, e]
theorem keys7_len {n k : Nat} {key : Str} {q : Q7} (h : Ok7 n k key q) : (q.d.filter fun p => !p.2.2.isEmpty).length ≤ 1 := Nat.le_trans (List.length_filter_le _ _) h.len
theorem pqI_nil {st : List (Int × Int)} : (st.map pqI = []) ↔ st = [] := List.map_eq_nil_iff
end KS
namespace KS
open PySem PySem.Spec PyProof.Rows L2 DL
theorem cm_stand {K : PySem.W.Frag} {M : Mem} (st : List (Int × Int)) : CmpM K M (.lst (standD st)) (.list (pyds (rowsD (st.map pqI)))) := by
  have e : standD st = rowsD (st.map pqI) := by unfold standD rowsD; rw [List.map_map]; rfl
  rw [e]
  exact cm_rows lvL
theorem keys_flat (q : Q7) {n k : Nat} (key : Str) (h : Ok7 n k key q) : flatD (.lst ((q.d.filter fun p => !p.2.2.isEmpty).map fun p => D.v (.str p.1))) = true ∧ flatD (.lst (List.replicate (if (!decide (q.st = [])) then (1 : Int) else 0).toNat [D.v (.str key)]).flatten) = true := by
  rw [keys7 h]
  by_cases e : q.st = []
  · simp [e, flatD, flatDs]
  · simp [e, flatD, flatDs]
theorem keys_eqv (q : Q7) (key : Str) : PyData.eqv (pyd (.lst (List.replicate (if (!decide (q.st = [])) then (1 : Int) else 0).toNat [D.v (.str key)]).flatten)) (pyd (.lst (List.replicate (if (!decide (q.st = [])) then (1 : Int) else 0).toNat [D.v (.str key)]).flatten)) = true := by
  by_cases e : q.st = []
  · simp [e, pyd, pyds, PyData.eqv, PyData.eqvAll]
  · simp [e, pyd, pyds, PyData.eqv, PyData.eqvAll]
theorem chK_lt (c : Int) (k : Nat) : chK c k < 0x110000 := by
  have h : keyChars.cps.toList.all (fun x => decide (x < 0x110000)) = true := by decide +kernel
  rw [List.all_eq_true] at h
  unfold chK
  rw [List.getD_eq_getElem?_getD]
  cases e : keyChars.cps.toList[((c / 13 + 7 * (k : Int)) % 88).toNat]? with
  | none => decide
  | some x =>
    have := h x (List.mem_of_getElem? e)
    simpa using this
theorem keyTo_ok (c : Int) : ∀ k, PyData.strOk (keyTo c k) = true
  | 0 => by
    show PyData.strOk ("" : Str) = true
    decide +kernel
  | k + 1 => by
    have h := keyTo_ok c k
    have h2 := chK_lt c k
    show ((keyTo c k).cps ++ #[chK c k]).all (· < 0x110000) = true
    have h3 : (keyTo c k).cps.all (· < 0x110000) = true := h
    rw [Array.all_append, h3]
    simpa using h2
theorem keyT_ok (c : Int) : PyData.strOk (keyT c) = true := keyTo_ok c _
theorem keys_shp2 (q : Q7) (key : Str) (hk : PyData.strOk key = true) : SeqAt.shaped (pyd (.lst (List.replicate (if (!decide (q.st = [])) then (1 : Int) else 0).toNat [D.v (.str key)]).flatten)) = true := by
  by_cases e : q.st = []
  · simp [e, pyd, pyds]; rfl
  · simp [e, pyd, pyds, SeqAt.shaped, PyData.canLay0, PyData.depth, PyData.canLayAll0, PyData.depthAll, hk]
theorem keys_shp1 (q : Q7) {n k : Nat} (key : Str) (h : Ok7 n k key q) (hk : PyData.strOk key = true) : SeqAt.shaped (pyd (.lst ((q.d.filter fun p => !p.2.2.isEmpty).map fun p => D.v (.str p.1)))) = true := by
  rw [keys7 h]
  exact keys_shp2 q key hk
end KS
set_option maxHeartbeats 400000
namespace KS
open PySem PySem.Spec PyProof.Rows L2 DL
/-! ### letters -/
def metShelf (s : Shelf) (m : List Int) (B : List (List Int)) : Shelf := (joinI s.1 m, metI s.1 m s.2 B)
def letD (key : Str) (s : Shelf) : D := .tup [.v (.str key), tupI s.1, .tup (rowsD s.2)]
def sLetter (Cl : Addr) : Spc := fun ds M r => ∃ (i k x n : Nat) (is : List Nat) (dc : List Dct) (d : Dct) (key : Str), At Cl M i k x n is dc d ∧ ds = [.res i, dInt (k : Nat), .v (.str key)] ∧ r = .ok (letD key (getS n d key)) M
def sTake (Cl : Addr) : Spc := fun ds M r => ∃ (i k x n : Nat) (is : List Nat) (dc : List Dct) (d : Dct) (key : Str) (s : Shelf), At Cl M i k x n is dc d ∧ GoodS n (getS n d key) ∧ GoodS n s ∧ n ≤ 9 ∧ (getS n d key).2.Nodup ∧ (getS n d key).2.length < 64 ∧ s.2.length < 64 ∧ d.length ≤ 1000 ∧
  ds = [.res i, dInt (k : Nat), letD key s] ∧ r = .ok (.v .non) (M.set x (.dK (dcD (putS d key (metShelf (getS n d key) s.1 s.2)))))
end KS
set_option maxHeartbeats 400000
namespace KS
open PySem PySem.Spec PyProof.Rows L2 DL
/-! ### shelves whose rows all lie in G; a letter that a shelf has taken in -/
structure GS (n : Nat) (G : List (List Int)) (s : Shelf) : Prop where
  len : s.1.length = n
  seen : SeenBy s.1 s.2
  asc : Asc s.2
  nd : s.2.Nodup
  sub : ∀ x ∈ s.2, x ∈ G
  nn : ∀ k : Nat, 0 ≤ s.1.getD k 0
theorem nd_len : ∀ {L G : List (List Int)}, L.Nodup → (∀ x ∈ L, x ∈ G) → L.length ≤ G.length
  | [], _, _, _ => Nat.zero_le _
  | x :: L, G, h, hs => by
    obtain ⟨h1, h2⟩ := List.nodup_cons.mp h
    have hx := hs x List.mem_cons_self
    have := nd_len (G := G.erase x) h2 fun y hy => (List.mem_erase_of_ne (fun e : y = x => h1 (by rw [← e]; exact hy))).mpr (hs y (List.mem_cons_of_mem _ hy))
    rw [List.length_erase_of_mem hx] at this
    have := List.length_pos_of_mem hx
    rw [List.length_cons]
    omega
theorem GS.few {n : Nat} {G : List (List Int)} {s : Shelf} (h : GS n G s) : s.2.length ≤ G.length := nd_len h.nd h.sub
theorem GS.good {n : Nat} {G : List (List Int)} {s : Shelf} (h : GS n G s) (hG : G.length ≤ 900) : GoodS n s := ⟨h.len, h.seen.rows, Nat.le_trans h.few hG⟩
theorem GS.mono {n : Nat} {G G' : List (List Int)} {s : Shelf} (h : GS n G s) (hG : ∀ x ∈ G, x ∈ G') : GS n G' s := ⟨h.len, h.seen, h.asc, h.nd, fun x hx => hG x (h.sub x hx), h.nn⟩
theorem GS.mem {n : Nat} {G : List (List Int)} {s : Shelf} (h : GS n G s) : ∀ x ∈ s.1, 0 ≤ x := fun x hx => by
  obtain ⟨k, hk⟩ := List.getElem?_of_mem hx
  have := h.nn k
  rw [List.getD_eq_getElem?_getD, hk] at this
  exact this
theorem blankI_getD (n k : Nat) : (blankI n).getD k 0 = 0 := by
  unfold blankI
  rw [List.getD_eq_getElem?_getD, List.getElem?_replicate]
  split <;> rfl
theorem GS.blank (n : Nat) (G : List (List Int)) : GS n G (blankI n, []) := ⟨by simp [blankI], (fun x hx => nomatch hx), List.Pairwise.nil, List.nodup_nil, (fun x hx => nomatch hx), fun k => by rw [blankI_getD]; exact Int.le_refl 0⟩
theorem GS.drop {n : Nat} {G : List (List Int)} {s : Shelf} (h : GS n G s) {m : List Int} (hm : m.length = n) : GS n G (dropShelf s m) := by
  have hl : s.1.length = m.length := by rw [h.len, hm]
  have sn : SeenBy (joinI s.1 m) s.2 := h.seen.le (by rw [joinI_len hl]) fun k => by rw [joinI_getD hl]; omega
  exact ⟨by show (joinI s.1 m).length = n; rw [joinI_len hl, h.len], fun x hx => sn x (List.mem_filter.mp hx).1, h.asc.filter _, h.nd.filter _, fun x hx => h.sub x (List.mem_filter.mp hx).1, fun k => by
    show 0 ≤ (joinI s.1 m).getD k 0
    have := h.nn k
    rw [joinI_getD hl]; omega⟩
theorem put_getD {s : Shelf} {m : List Int} {k : Nat} {v : Int} (hl : s.1.length = m.length) (hk : k < s.1.length) (j : Nat) : (putShelf s m k v).1.getD j 0 = if j = k then s.1.getD k 0 + 1 else max (s.1.getD j 0) (m.getD j 0) := by
  show ((joinI s.1 m).set k (s.1.getD k 0 + 1)).getD j 0 = _
  rw [← joinI_getD hl, List.getD_eq_getElem?_getD, List.getElem?_set]
  by_cases e : k = j
  · subst e
    rw [if_pos rfl, if_pos (by rw [joinI_len hl]; exact hk), if_pos rfl]; rfl
  · rw [if_neg e, if_neg (fun z => e z.symm), List.getD_eq_getElem?_getD]
theorem put_le {s : Shelf} {m : List Int} {k : Nat} {v : Int} (hl : s.1.length = m.length) (hk : k < s.1.length) (j : Nat) : s.1.getD j 0 ≤ (putShelf s m k v).1.getD j 0 := by
  rw [put_getD hl hk]
  split
  · rename_i e; subst e; omega
  · omega
theorem mem_put {s : Shelf} {m : List Int} {k : Nat} {v : Int} {x : List Int} : x ∈ (putShelf s m k v).2 ↔ (x ∈ s.2 ∧ unseenB m x = true) ∨ x = [(k : Int), s.1.getD k 0 + 1, v] := by
  show x ∈ sortI _ ↔ _
  rw [(sortI_perm _).mem_iff, List.mem_append, List.mem_filter, List.mem_singleton]
theorem GS.put {n : Nat} {G : List (List Int)} {s : Shelf} (h : GS n G s) {m : List Int} {k : Nat} {v : Int} (hm : m.length = n) (hk : k < n) : GS n (G ++ [[(k : Int), s.1.getD k 0 + 1, v]]) (putShelf s m k v) := by
  have hl : s.1.length = m.length := by rw [h.len, hm]
  have hk' : k < s.1.length := by rw [h.len]; exact hk
  have hlen : (putShelf s m k v).1.length = s.1.length := by
    show ((joinI s.1 m).set k _).length = _
    rw [List.length_set, joinI_len hl]
  have sn : SeenBy (putShelf s m k v).1 s.2 := h.seen.le hlen.symm (put_le hl hk')
  refine ⟨by rw [hlen, h.len], fun x hx => ?_, sortI_asc _, ?_, fun x hx => ?_, fun j => Int.le_trans (h.nn j) (put_le hl hk' j)⟩
  · rcases mem_put.mp hx with h1 | rfl
    · exact sn x h1.1
    · refine ⟨k, _, v, s.1.getD k 0 + 1, rfl, ?_, Int.le_refl _⟩
      have := get_getD (m := (putShelf s m k v).1) (k := k) (by rw [hlen]; exact hk')
      rw [this, put_getD hl hk', if_pos rfl]
  · show (sortI _).Nodup
    refine ((sortI_perm _).nodup_iff).mpr (List.nodup_append.mpr ⟨h.nd.filter _, by simp, ?_⟩)
    rintro x hx y hy rfl
    rw [List.mem_singleton] at hy
    subst hy
    obtain ⟨k', n', v', y, e, hy, hn⟩ := h.seen _ (List.mem_filter.mp hx).1
    injection e with e1 e2
    injection e2 with e2 e3
    have : k = k' := by omega
    subst this
    rw [List.getD_eq_getElem?_getD, hy] at e2
    simp only [Option.getD_some] at e2
    omega
  · rcases mem_put.mp hx with h1 | rfl
    · exact List.mem_append_left _ (h.sub x h1.1)
    · simp
theorem mem_met {s t : Shelf} {x : List Int} : x ∈ (metShelf s t.1 t.2).2 ↔ (x ∈ s.2 ∧ x ∈ t.2) ∨ (x ∈ s.2 ∧ unseenB t.1 x = true) ∨ (x ∈ t.2 ∧ unseenB s.1 x = true) := by
  show x ∈ sortI _ ↔ _
  rw [(sortI_perm _).mem_iff]
  exact mem_metL
theorem GS.met {n : Nat} {G : List (List Int)} {s t : Shelf} (h : GS n G s) (g : GS n G t) : GS n G (metShelf s t.1 t.2) := by
  have hl : s.1.length = t.1.length := by rw [h.len, g.len]
  have s1 : SeenBy (joinI s.1 t.1) s.2 := h.seen.le (by rw [joinI_len hl]) fun k => by rw [joinI_getD hl]; omega
  have s2 : SeenBy (joinI s.1 t.1) t.2 := g.seen.le (by rw [joinI_len hl, hl]) fun k => by rw [joinI_getD hl]; omega
  refine ⟨by show (joinI s.1 t.1).length = n; rw [joinI_len hl, h.len], fun x hx => ?_, sortI_asc _, ((sortI_perm _).nodup_iff).mpr (metL_nodup h.nd g.nd h.seen g.seen), fun x hx => ?_, fun k => ?_⟩
  · rcases mem_met.mp hx with h1 | h1 | h1
    · exact s1 x h1.1
    · exact s1 x h1.1
    · exact s2 x h1.1
  · rcases mem_met.mp hx with h1 | h1 | h1
    · exact h.sub x h1.1
    · exact h.sub x h1.1
    · exact g.sub x h1.1
  · show 0 ≤ (joinI s.1 t.1).getD k 0
    have := h.nn k
    rw [joinI_getD hl]; omega
/-- the shelf s has taken in the letter t -/
structure Abs (s t : Shelf) : Prop where
  le : ∀ k : Nat, t.1.getD k 0 ≤ s.1.getD k 0
  old : ∀ x ∈ s.2, unseenB t.1 x = false → x ∈ t.2
theorem uns_mono {a b : List Int} (h : ∀ k : Nat, a.getD k 0 ≤ b.getD k 0) {x : List Int} (hx : unseenB b x = true) : unseenB a x = true := by
  match x, hx with
  | k :: n :: r, hx =>
    simp only [unseenB, Bool.not_eq_true', decide_eq_false_iff_not] at hx ⊢
    have := h k.toNat
    omega
theorem Abs.self (s : Shelf) : Abs s s := ⟨fun _ => Int.le_refl _, fun x hx _ => hx⟩
theorem Abs.drop {s t : Shelf} (h : Abs s t) {m : List Int} (hl : s.1.length = m.length) : Abs (dropShelf s m) t := ⟨fun k => by
  show _ ≤ (joinI s.1 m).getD k 0
  have := h.le k
  rw [joinI_getD hl]; omega, fun x hx => h.old x (List.mem_filter.mp hx).1⟩
theorem Abs.put {s t : Shelf} (h : Abs s t) {m : List Int} {k : Nat} {v : Int} (hl : s.1.length = m.length) (hk : k < s.1.length) : Abs (putShelf s m k v) t := ⟨fun j => Int.le_trans (h.le j) (put_le hl hk j), fun x hx hu => by
  rcases mem_put.mp hx with h1 | rfl
  · exact h.old x h1.1 hu
  · have := h.le k
    simp only [unseenB, Int.toNat_natCast, Bool.not_eq_false', decide_eq_true_eq] at hu
    omega⟩
theorem Abs.met {s t u : Shelf} (h : Abs s t) (hl : s.1.length = u.1.length) : Abs (metShelf s u.1 u.2) t := ⟨fun k => by
  show _ ≤ (joinI s.1 u.1).getD k 0
  have := h.le k
  rw [joinI_getD hl]; omega, fun x hx hu => by
  rcases mem_met.mp hx with h1 | h1 | h1
  · exact h.old x h1.1 hu
  · exact h.old x h1.1 hu
  · rw [uns_mono h.le h1.2] at hu
    cases hu⟩
theorem Abs.taken {s t : Shelf} (hl : s.1.length = t.1.length) : Abs (metShelf s t.1 t.2) t := ⟨fun k => by
  show _ ≤ (joinI s.1 t.1).getD k 0
  rw [joinI_getD hl]; omega, fun x hx hu => by
  rcases mem_met.mp hx with h1 | h1 | h1
  · exact h1.2
  · rw [h1.2] at hu
    cases hu
  · exact h1.1⟩
theorem Abs.eq {n : Nat} {G : List (List Int)} {s t : Shelf} (h : Abs s t) (gs : GS n G s) (gt : GS n G t) : metShelf s t.1 t.2 = s := by
  have hl : s.1.length = t.1.length := by rw [gs.len, gt.len]
  refine Prod.ext ?_ ?_
  · show joinI s.1 t.1 = s.1
    refine ext_getD (joinI_len hl) fun k => ?_
    have := h.le k
    rw [joinI_getD hl]; omega
  · refine Eq.trans (b := sortI s.2) (sortI_ext (metL_nodup gs.nd gt.nd gs.seen gt.seen) gs.nd fun x => ?_) (sortI_of_asc gs.asc)
    rw [mem_metL]
    constructor
    · rintro (h1 | h1 | h1)
      · exact h1.1
      · exact h1.1
      · have := gt.seen.no h1.1
        rw [uns_mono h.le h1.2] at this
        cases this
    · intro hx
      cases e : unseenB t.1 x with
      | true => exact .inr (.inl ⟨hx, rfl⟩)
      | false => exact .inl ⟨hx, h.old x hx e⟩
/-! ### all shelves of one key, as looks show them -/
def seenD (s : Shelf) : D := .tup [.lst (intsD (valsI s.2)), tupI s.1]
def sShown (Cl : Addr) (key : Str) : Spc := fun ds M r => ∃ (i n : Nat) (is : List Nat) (dc : List Dct), StoreAt Cl M i is dc ∧ dc.length = n ∧ n ≤ 9 ∧ (∀ d ∈ dc, GoodS n (getS n d key)) ∧ ds = [.res i, dInt (n : Nat)] ∧
  r = .ok (.lst ((List.range n).map fun k => seenD (getS n (dc.getD k []) key))) M
theorem StoreAt.nth {Cl : Addr} {M : Mem} {i : Nat} {is : List Nat} {dc : List Dct} (h : StoreAt Cl M i is dc) {k : Nat} (hk : k < dc.length) : ∃ x, At Cl M i k x dc.length is dc (dc.getD k []) := by
  have hk2 : k < is.length := by rw [h.len]; exact hk
  refine ⟨is[k], h, List.getElem?_eq_getElem hk2, ?_, rfl⟩
  rw [List.getD_eq_getElem?_getD, List.getElem?_eq_getElem hk]; rfl
end KS
set_option maxHeartbeats 400000
namespace KS
open PySem PySem.Spec PyProof.Rows L2 DL
/-! ### a store of n keepers in the memory, behind it T -/
def isOf (b n : Nat) : List Nat := (List.range n).map fun j => b + 1 + j
def memS (Cl : Addr) (M0 : Mem) (n : Nat) (dc : List Dct) (T : Mem) : Mem := M0 ++ (.ins Cl (fldsD n (isOf M0.length n)) :: ((dc.map fun d => MO.dK (dcD d)) ++ T))
section
variable {Cl : Addr} {M0 T : Mem} {n k j : Nat} {dc : List Dct}
theorem isOf_len (b n : Nat) : (isOf b n).length = n := by simp [isOf]
theorem isOf_at {b : Nat} (h : k < n) : (isOf b n)[k]? = some (b + 1 + k) := by simp [isOf, h]
theorem memS_len (hd : dc.length = n) : (memS Cl M0 n dc T).length = M0.length + 1 + n + T.length := by
  unfold memS
  simp [hd]; omega
theorem memS_app (J : Mem) : memS Cl M0 n dc T ++ J = memS Cl M0 n dc (T ++ J) := by
  unfold memS
  simp [List.append_assoc]
theorem memS_own : (memS Cl M0 n dc T)[M0.length]? = some (.ins Cl (fldsD n (isOf M0.length n))) := by
  unfold memS
  rw [List.getElem?_append_right (Nat.le_refl _), Nat.sub_self]; rfl
theorem memS_get (i : Nat) : (memS Cl M0 n dc T)[M0.length + 1 + i]? = ((dc.map fun d => MO.dK (dcD d)) ++ T)[i]? := by
  unfold memS
  rw [List.getElem?_append_right (by omega)]
  have : M0.length + 1 + i - M0.length = i + 1 := by omega
  rw [this, List.getElem?_cons_succ]
theorem memS_tail (hd : dc.length = n) (j : Nat) : (memS Cl M0 n dc T)[M0.length + 1 + n + j]? = T[j]? := by
  rw [Nat.add_assoc (M0.length + 1), memS_get, List.getElem?_append_right (by simp [hd])]
  congr 1
  simp [hd]
theorem memS_st (hd : dc.length = n) : StoreAt Cl (memS Cl M0 n dc T) M0.length (isOf M0.length n) dc := by
  refine ⟨by rw [hd]; exact memS_own, by rw [isOf_len, hd], ?_, ?_, fun k x d h1 h2 => ?_⟩
  · unfold isOf
    refine List.pairwise_map.mpr (List.nodup_range.imp fun {a b} h e => h (by omega))
  · intro hm
    obtain ⟨j, _, e⟩ := List.mem_map.mp hm
    omega
  · have hk : k < n := by
      have := (List.getElem?_eq_some_iff.mp h1).1
      rwa [isOf_len] at this
    rw [isOf_at hk] at h1
    cases h1
    rw [memS_get, List.getElem?_append_left (by simp [hd, hk]), List.getElem?_map, h2]; rfl
theorem memS_at (hd : dc.length = n) (hk : k < n) : At Cl (memS Cl M0 n dc T) M0.length k (M0.length + 1 + k) n (isOf M0.length n) dc (dc.getD k []) := by
  refine ⟨memS_st hd, isOf_at hk, ?_, hd⟩
  have : k < dc.length := by omega
  rw [List.getD_eq_getElem?_getD, List.getElem?_eq_getElem this]; rfl
theorem set_app {α : Type} (a b : List α) (i : Nat) (x : α) : (a ++ b).set (a.length + i) x = a ++ b.set i x := by
  rw [List.set_append_right _ _ (by omega)]
  congr 2
  omega
theorem memS_set (hd : dc.length = n) (hk : k < n) (d : Dct) : (memS Cl M0 n dc T).set (M0.length + 1 + k) (.dK (dcD d)) = memS Cl M0 n (dc.set k d) T := by
  unfold memS
  rw [Nat.add_assoc, set_app, Nat.add_comm 1 k, List.set_cons_succ, List.set_append_left _ _ (by simp [hd, hk]), List.map_set]
theorem memS_tset (hd : dc.length = n) (j : Nat) (x : MO) : (memS Cl M0 n dc T).set (M0.length + 1 + n + j) x = memS Cl M0 n dc (T.set j x) := by
  unfold memS
  have e : M0.length + 1 + n + j = M0.length + (n + j + 1) := by omega
  rw [e, set_app, List.set_cons_succ]
  have e2 : n + j = (dc.map fun d => MO.dK (dcD d)).length + j := by simp [hd]
  rw [e2, set_app]
theorem memS_fits (hd : dc.length = n) : ∃ J, memS Cl M0 n dc T = M0 ++ J := ⟨_, rfl⟩
theorem memS_new : M0 ++ [MO.ins Cl (fldsD n ((List.range n).map fun j => M0.length + 1 + j))] ++ List.replicate n (.dK []) = memS Cl M0 n (List.replicate n []) [] := by
  unfold memS isOf
  have : (List.replicate n ([] : Dct)).map (fun d => MO.dK (dcD d)) = List.replicate n (.dK []) := by
    rw [List.map_replicate]; rfl
  rw [this, List.append_nil, List.append_assoc]; rfl
end
theorem getD_set {α : Type} {l : List α} {k i : Nat} {x d : α} (hk : k < l.length) : (l.set k x).getD i d = if i = k then x else l.getD i d := by
  rw [List.getD_eq_getElem?_getD, List.getD_eq_getElem?_getD]
  by_cases e : i = k
  · subst e
    rw [if_pos rfl, List.getElem?_set_self hk]; rfl
  · rw [if_neg e, List.getElem?_set_ne (fun z => e z.symm)]
theorem mem_getD {α : Type} {l : List α} {k : Nat} {d : α} (hk : k < l.length) : l.getD k d ∈ l := by
  rw [List.getD_eq_getElem?_getD, List.getElem?_eq_getElem hk]
  exact List.getElem_mem hk
end KS
set_option maxHeartbeats 400000
namespace KS
open PySem PySem.Spec PyProof.Rows L2 DL
/-! ### law 10: what is kept -/
structure Q10 where
  dc : List Dct
  lk : List (List Int)
  lt : List Shelf
  tk : List (List Shelf)
def Q10.sh (n : Nat) (q : Q10) (k : Nat) : Shelf := getS n (q.dc.getD k []) ""
/-- the changing things behind the store -/
def T10 (q : Q10) : Mem := .lst (q.lk.map tupI) :: .lst (q.lt.map (letD "")) :: q.tk.map fun l => MO.lst (l.map (letD ""))
def mem10 (Cl : Addr) (M0 : Mem) (n : Nat) (q : Q10) : Mem := memS Cl M0 n q.dc (T10 q)
structure Ok10 (n t : Nat) (G : List (List Int)) (q : Q10) : Prop where
  dl : q.dc.length = n
  gs : ∀ k, k < n → GS n G (q.sh n k)
  fw : ∀ d ∈ q.dc, d.length ≤ 1 + t
  lk : ∀ m ∈ q.lk, m.length = n ∧ ∀ x ∈ m, 0 ≤ x
  ne : q.lk ≠ []
  lkl : q.lk.length ≤ 1 + t
  lt : ∀ s ∈ q.lt, GS n G s
  ltl : q.lt.length ≤ t
  tl : q.tk.length = n
  tk : ∀ k, k < n → ∀ s ∈ q.tk.getD k [], GS n G s ∧ Abs (q.sh n k) s
  tkl : ∀ l ∈ q.tk, l.length ≤ t
  gl : G.length ≤ t
def pick10 (n : Nat) (c t : Int) : Int := c / 9 / (n : Int) + 5 * t
def kp10 (n : Nat) (c : Int) : Nat := (c / 9 % (n : Int)).toNat
def srt10 (c t : Int) : Int := (c + t) % 9
def look10 (n : Nat) (q : Q10) (c t : Int) : List Int := q.lk.getD (pick10 n c t % ((q.lk.length : Nat) : Int)).toNat []
def let10 (n : Nat) (q : Q10) (c t : Int) : Shelf := q.lt.getD (pick10 n c t % ((q.lt.length : Nat) : Int)).toNat ([], [])
def val10 (c t : Int) : Int := c % 10 ^ 50 - t
/-- keeper k's shelf becomes s -/
def Q10.at (q : Q10) (k : Nat) (s : Shelf) : Q10 := { q with dc := q.dc.set k (putS (q.dc.getD k []) "" s) }
def Q10.took (q : Q10) (k : Nat) (s : Shelf) : Q10 := { q with tk := q.tk.set k (q.tk.getD k [] ++ [s]) }
def deed10 (n : Nat) (q : Q10) (c t : Int) : Q10 :=
  if srt10 c t < 3 then q.at (kp10 n c) (putShelf (q.sh n (kp10 n c)) (look10 n q c t) (kp10 n c) (val10 c t))
  else if srt10 c t = 3 then q.at (kp10 n c) (dropShelf (q.sh n (kp10 n c)) (look10 n q c t))
  else if srt10 c t < 6 then { q with lk := q.lk ++ [(q.sh n (kp10 n c)).1] }
  else if srt10 c t = 6 ∨ q.lt = [] then { q with lt := q.lt ++ [q.sh n (kp10 n c)], tk := q.tk.set (kp10 n c) (q.tk.getD (kp10 n c) [] ++ [q.sh n (kp10 n c)]) }
  else (q.took (kp10 n c) (let10 n q c t)).at (kp10 n c) (metShelf (q.sh n (kp10 n c)) (let10 n q c t).1 (let10 n q c t).2)
theorem kp10_lt {n : Nat} (h : 1 ≤ n) (c : Int) : kp10 n c < n ∧ ((kp10 n c : Nat) : Int) = c / 9 % (n : Int) := by
  have a := Int.emod_nonneg (c / 9) (b := (n : Int)) (by omega)
  have b := Int.emod_lt_of_pos (c / 9) (b := (n : Int)) (by omega)
  unfold kp10
  omega
theorem Q10.sh_at {n : Nat} {q : Q10} {k : Nat} (hk : k < q.dc.length) (s : Shelf) (j : Nat) : (q.at k s).sh n j = if j = k then s else q.sh n j := by
  unfold Q10.sh Q10.at
  rw [getD_set hk]
  by_cases e : j = k
  · rw [if_pos e, if_pos e, getS_put, if_pos rfl]
  · rw [if_neg e, if_neg e]
theorem Ok10.mono {n t t' : Nat} {G G' : List (List Int)} {q : Q10} (h : Ok10 n t G q) (ht : t ≤ t') (hG : ∀ x ∈ G, x ∈ G') (gl : G'.length ≤ t') : Ok10 n t' G' q :=
  ⟨h.dl, fun k hk => (h.gs k hk).mono hG, fun d hd => Nat.le_trans (h.fw d hd) (by omega), h.lk, h.ne, Nat.le_trans h.lkl (by omega), fun s hs => (h.lt s hs).mono hG, Nat.le_trans h.ltl ht, h.tl, fun k hk s hs => ⟨(h.tk k hk s hs).1.mono hG, (h.tk k hk s hs).2⟩, fun l hl => Nat.le_trans (h.tkl l hl) ht, gl⟩
/-- a shelf changes, what it has taken in it keeps -/
theorem Ok10.at {n t : Nat} {G : List (List Int)} {q : Q10} (h : Ok10 n t G q) {k : Nat} (hk : k < n) {s : Shelf} (hs : GS n G s) (ha : ∀ l, Abs (q.sh n k) l → Abs s l) (hd : (putS (q.dc.getD k []) "" s).length ≤ 1 + t) : Ok10 n t G (q.at k s) := by
  have hk2 : k < q.dc.length := by rw [h.dl]; exact hk
  refine ⟨by unfold Q10.at; rw [List.length_set]; exact h.dl, fun j hj => ?_, fun d hm => ?_, h.lk, h.ne, h.lkl, h.lt, h.ltl, h.tl, fun j hj s' hs' => ?_, h.tkl, h.gl⟩
  · rw [Q10.sh_at hk2]
    split
    · exact hs
    · exact h.gs j hj
  · rcases List.mem_or_eq_of_mem_set hm with hm | rfl
    · exact h.fw d hm
    · exact hd
  · obtain ⟨h1, h2⟩ := h.tk j hj s' hs'
    refine ⟨h1, ?_⟩
    rw [Q10.sh_at hk2]
    by_cases e : j = k
    · subst e
      rw [if_pos rfl]
      exact ha _ h2
    · rw [if_neg e]
      exact h2
theorem look10_mem {n : Nat} {q : Q10} {c t : Int} (h : q.lk ≠ []) : look10 n q c t ∈ q.lk := by
  have hl : 0 < q.lk.length := List.length_pos_iff.mpr h
  have a := Int.emod_nonneg (pick10 n c t) (b := ((q.lk.length : Nat) : Int)) (by omega)
  have b := Int.emod_lt_of_pos (pick10 n c t) (b := ((q.lk.length : Nat) : Int)) (by omega)
  exact mem_getD (by omega)
theorem let10_mem {n : Nat} {q : Q10} {c t : Int} (h : q.lt ≠ []) : let10 n q c t ∈ q.lt := by
  have hl : 0 < q.lt.length := List.length_pos_iff.mpr h
  have a := Int.emod_nonneg (pick10 n c t) (b := ((q.lt.length : Nat) : Int)) (by omega)
  have b := Int.emod_lt_of_pos (pick10 n c t) (b := ((q.lt.length : Nat) : Int)) (by omega)
  exact mem_getD (by omega)
theorem at_maps {α : Type} {f : α → D} {xs : List α} {p : Int} {d : α} (h : xs ≠ []) : atI (xs.map f) (p % ((xs.length : Nat) : Int)) = some (f (xs.getD (p % ((xs.length : Nat) : Int)).toNat d)) := by
  have hl : 0 < xs.length := List.length_pos_iff.mpr h
  have a := Int.emod_nonneg p (b := ((xs.length : Nat) : Int)) (by omega)
  have b := Int.emod_lt_of_pos p (b := ((xs.length : Nat) : Int)) (by omega)
  generalize p % ((xs.length : Nat) : Int) = i at a b
  obtain ⟨m, rfl⟩ := Int.eq_ofNat_of_zero_le a
  refine atI_nat ?_
  have hm : m < xs.length := by omega
  rw [List.getElem?_map, List.getElem?_eq_getElem hm, Int.toNat_natCast, List.getD_eq_getElem?_getD, List.getElem?_eq_getElem hm]; rfl
theorem at_lastm {α : Type} {f : α → D} {xs : List α} {x : α} : atI ((xs ++ [x]).map f) (-1) = some (f x) := by
  unfold atI ixN
  rw [if_neg (by omega)]
  rw [if_pos (by simp; omega)]
  simp only [Option.bind_some]
  have e : (-1 + (((xs ++ [x]).map f).length : Int)).toNat = xs.length := by simp; omega
  rw [e]
  simp
theorem deed10_ok {n t : Nat} {G : List (List Int)} {q : Q10} (h : Ok10 n t G q) (hn : 1 ≤ n) (c z : Int) : ∃ G', Ok10 n (t + 1) G' (deed10 n q c z) := by
  obtain ⟨hk, _⟩ := kp10_lt hn c
  generalize hkk : kp10 n c = k at hk
  have hs := h.gs k hk
  have hd : ∀ s, (putS (q.dc.getD k []) "" s).length ≤ 1 + (t + 1) := fun s => by
    have h1 := putS_len (q.dc.getD k []) "" s
    have h2 := h.fw _ (mem_getD (l := q.dc) (k := k) (d := []) (by rw [h.dl]; exact hk))
    omega
  obtain ⟨hl1, hl2⟩ := h.lk _ (look10_mem (n := n) (c := c) (t := z) h.ne)
  unfold deed10
  rw [hkk]
  generalize look10 n q c z = m at hl1 hl2
  have hlen : (q.sh n k).1.length = m.length := by rw [hs.len, hl1]
  have mono : Ok10 n (t + 1) G q := h.mono (by omega) (fun x hx => hx) (Nat.le_trans h.gl (by omega))
  by_cases h1 : srt10 c z < 3
  · rw [if_pos h1]
    refine ⟨G ++ [[(k : Int), (q.sh n k).1.getD k 0 + 1, val10 c z]], Ok10.at (h.mono (by omega) (fun x hx => List.mem_append_left _ hx) ?_) hk (hs.put hl1 hk) (fun l hl => hl.put hlen (by rw [hs.len]; exact hk)) (hd _)⟩
    rw [List.length_append, List.length_singleton]
    have := h.gl
    omega
  rw [if_neg h1]
  by_cases h2 : srt10 c z = 3
  · rw [if_pos h2]
    exact ⟨G, mono.at hk (hs.drop hl1) (fun l hl => hl.drop hlen) (hd _)⟩
  rw [if_neg h2]
  by_cases h3 : srt10 c z < 6
  · rw [if_pos h3]
    refine ⟨G, mono.dl, mono.gs, mono.fw, fun m' hm' => ?_, by simp, ?_, mono.lt, mono.ltl, mono.tl, mono.tk, mono.tkl, mono.gl⟩
    · rcases List.mem_append.mp hm' with hm' | hm'
      · exact h.lk m' hm'
      · have : m' = (q.sh n k).1 := by simpa using hm'
        subst this
        exact ⟨hs.len, hs.mem⟩
    · rw [List.length_append, List.length_singleton]
      have := h.lkl
      omega
  rw [if_neg h3]
  have hkt : k < q.tk.length := by rw [h.tl]; exact hk
  have took : ∀ l, GS n G l → ∀ (lt' : List Shelf) (s' : Shelf), (∀ s ∈ lt', GS n G s) → lt'.length ≤ t + 1 → GS n G s' → Abs s' l → (∀ u, Abs (q.sh n k) u → Abs s' u) → ∀ dc', dc' = q.dc ∧ s' = q.sh n k ∨ dc' = q.dc.set k (putS (q.dc.getD k []) "" s') → Ok10 n (t + 1) G ⟨dc', q.lk, lt', q.tk.set k (q.tk.getD k [] ++ [l])⟩ := by
    intro l hl lt' s' hlt hltl hs' hab hab' dc' hdc
    have shs : ∀ j, j < n → Q10.sh n ⟨dc', q.lk, lt', q.tk.set k (q.tk.getD k [] ++ [l])⟩ j = if j = k then s' else q.sh n j := by
      intro j hj
      rcases hdc with ⟨rfl, rfl⟩ | rfl
      · show q.sh n j = _
        split
        · rename_i e; rw [e]
        · rfl
      · exact Q10.sh_at (by rw [h.dl]; exact hk) s' j
    refine ⟨?_, fun j hj => ?_, fun d hm => ?_, h.lk, h.ne, mono.lkl, hlt, hltl, by show (q.tk.set k _).length = n; rw [List.length_set]; exact h.tl, fun j hj u hu => ?_, fun u hu => ?_, mono.gl⟩
    · rcases hdc with ⟨rfl, _⟩ | rfl
      · exact h.dl
      · show (q.dc.set k _).length = n; rw [List.length_set]; exact h.dl
    · rw [shs j hj]
      split
      · exact hs'
      · exact h.gs j hj
    · rcases hdc with ⟨rfl, _⟩ | rfl
      · exact mono.fw d hm
      · rcases List.mem_or_eq_of_mem_set hm with hm | rfl
        · exact mono.fw d hm
        · exact hd _
    · have hu' : u ∈ (q.tk.set k (q.tk.getD k [] ++ [l])).getD j [] := hu
      rw [getD_set hkt] at hu'
      rw [shs j hj]
      by_cases e : j = k
      · subst e
        rw [if_pos rfl] at hu' ⊢
        rcases List.mem_append.mp hu' with hu' | hu'
        · obtain ⟨a, b⟩ := h.tk j hj u hu'
          exact ⟨a, hab' u b⟩
        · have : u = l := by simpa using hu'
          subst this
          exact ⟨hl, hab⟩
      · rw [if_neg e] at hu' ⊢
        exact h.tk j hj u hu'
    · have hu' : u ∈ q.tk.set k (q.tk.getD k [] ++ [l]) := hu
      rcases List.mem_or_eq_of_mem_set hu' with hm | rfl
      · exact mono.tkl u hm
      · rw [List.length_append, List.length_singleton]
        have := h.tkl _ (mem_getD (l := q.tk) (k := k) (d := []) hkt)
        omega
  by_cases h4 : srt10 c z = 6 ∨ q.lt = []
  · rw [if_pos h4]
    refine ⟨G, took _ hs _ (q.sh n k) (fun s hm => ?_) ?_ hs (Abs.self _) (fun u hu => hu) _ (.inl ⟨rfl, rfl⟩)⟩
    · rcases List.mem_append.mp hm with hm | hm
      · exact h.lt s hm
      · have : s = q.sh n k := by simpa using hm
        subst this
        exact hs
    · rw [List.length_append, List.length_singleton]
      have := h.ltl
      omega
  · rw [if_neg h4]
    have hne : q.lt ≠ [] := fun e => h4 (.inr e)
    have hl := h.lt _ (let10_mem (n := n) (c := c) (t := z) hne)
    generalize let10 n q c z = l at hl
    have hll : (q.sh n k).1.length = l.1.length := by rw [hs.len, hl.len]
    exact ⟨G, took l hl q.lt (metShelf (q.sh n k) l.1 l.2) h.lt mono.ltl (hs.met hl) (Abs.taken hll) (fun u hu => hu.met hll) _ (.inr rfl)⟩
/-- a letter that has been taken in changes nothing -/
theorem Ok10.again {n t : Nat} {G : List (List Int)} {q : Q10} (h : Ok10 n t G q) {k : Nat} (hk : k < n) {l : Shelf} (hl : GS n G l) (ha : Abs (q.sh n k) l) : Ok10 n (t + 1) G (q.at k (q.sh n k)) ∧ metShelf (q.sh n k) l.1 l.2 = q.sh n k := by
  refine ⟨(h.mono (by omega) (fun x hx => hx) (Nat.le_trans h.gl (by omega))).at hk (h.gs k hk) (fun u hu => hu) ?_, ha.eq (h.gs k hk) hl⟩
  have h1 := putS_len (q.dc.getD k []) "" (q.sh n k)
  have h2 := h.fw _ (mem_getD (l := q.dc) (k := k) (d := []) (by rw [h.dl]; exact hk))
  omega
theorem Q10.sh_self {n : Nat} {q : Q10} {k : Nat} (hk : k < q.dc.length) (j : Nat) : (q.at k (q.sh n k)).sh n j = q.sh n j := by
  rw [Q10.sh_at hk]
  split
  · rename_i e; rw [e]
  · rfl
/-! ### what the deed does -/
def sDeed10 (Cl : Addr) : Spc := fun ds M r => ∃ (M0 : Mem) (n t : Nat) (G : List (List Int)) (q : Q10) (c z : Int), M = mem10 Cl M0 n q ∧ Ok10 n t G q ∧ 1 ≤ n ∧ n ≤ 9 ∧ t ≤ 60 ∧
  ds = [.res M0.length, .res (M0.length + 1 + n), .res (M0.length + 1 + n + 1), .lst ((List.range n).map fun k => D.res (M0.length + 1 + n + (2 + k))), dInt c, dInt z, dInt (n : Nat)] ∧ r = .ok (dInt (kp10 n c : Nat)) (mem10 Cl M0 n (deed10 n q c z))
end KS
namespace KS
open PySem PySem.Spec PyProof.Rows L2 DL
section
variable {Cl : Addr} {M0 : Mem} {n : Nat} {q : Q10}
theorem pl_let {m : Nat} {key : Str} (s : Shelf) (hk : PyData.strOk key = true) : plD (m + 3) (letD key s) := .tup (plD.cons (.str hk) (plD.cons (pl_tupI _) (plD.cons (pl_rowsT _) plD.nil)))
theorem ok_empty : PyData.strOk ("" : Str) = true := by decide +kernel
theorem mem10_lkAt (hd : q.dc.length = n) : (mem10 Cl M0 n q)[M0.length + 1 + n]? = some (.lst (q.lk.map tupI)) := memS_tail hd 0
theorem mem10_ltAt (hd : q.dc.length = n) : (mem10 Cl M0 n q)[M0.length + 1 + n + 1]? = some (.lst (q.lt.map (letD ""))) := memS_tail hd 1
theorem mem10_tkAt (hd : q.dc.length = n) {k : Nat} (hk : k < q.tk.length) : (mem10 Cl M0 n q)[M0.length + 1 + n + (2 + k)]? = some (.lst ((q.tk.getD k []).map (letD ""))) := by
  unfold mem10
  rw [memS_tail hd, Nat.add_comm 2 k]
  show (q.tk.map fun l => MO.lst (l.map (letD "")))[k]? = _
  rw [List.getElem?_map, List.getD_eq_getElem?_getD, List.getElem?_eq_getElem hk]; rfl
theorem mem10_at (hd : q.dc.length = n) {k : Nat} (hk : k < n) (s : Shelf) : (mem10 Cl M0 n q).set (M0.length + 1 + k) (.dK (dcD (putS (q.dc.getD k []) "" s))) = mem10 Cl M0 n (q.at k s) := memS_set hd hk _
theorem mem10_lk (hd : q.dc.length = n) (m : List Int) : (mem10 Cl M0 n q).set (M0.length + 1 + n) (.lst (q.lk.map tupI ++ [tupI m])) = mem10 Cl M0 n { q with lk := q.lk ++ [m] } := by
  refine (memS_tset hd 0 _).trans ?_
  unfold mem10 T10
  rw [List.map_append]; rfl
theorem mem10_lt (hd : q.dc.length = n) (s : Shelf) : (mem10 Cl M0 n q).set (M0.length + 1 + n + 1) (.lst (q.lt.map (letD "") ++ [letD "" s])) = mem10 Cl M0 n { q with lt := q.lt ++ [s] } := by
  refine (memS_tset hd 1 _).trans ?_
  unfold mem10 T10
  rw [List.map_append]; rfl
theorem mem10_tk (hd : q.dc.length = n) (k : Nat) (s : Shelf) : (mem10 Cl M0 n q).set (M0.length + 1 + n + (2 + k)) (.lst ((q.tk.getD k []).map (letD "") ++ [letD "" s])) = mem10 Cl M0 n (q.took k s) := by
  refine (memS_tset hd _ _).trans ?_
  unfold mem10 T10 Q10.took
  rw [Nat.add_comm 2 k, List.set_cons_succ, List.set_cons_succ, List.map_set, List.map_append]; rfl
theorem lets_nil (l : List Shelf) : PyData.eqv (pyd (.lst (l.map (letD "")))) (pyd (.lst [])) = decide (l = []) := by
  have h := plD.eqv (plD.lst (n := 3) (.maps (f := letD "") (xs := l) fun s _ => pl_let s ok_empty)) (plD.lst (n := 3) plD.nil)
  rw [Bool.eq_iff_iff, h]
  simp
end
theorem enum_at {xs : List Int} {i : Nat} {d : D} (h : ((intsD xs).zipIdx.map fun q => pairD (dInt (q.2 : Int)) q.1)[i]? = some d) : ∃ c, xs[i]? = some c ∧ d = pairD (dInt (i : Nat)) (dInt c) := by
  rw [List.getElem?_map, List.getElem?_zipIdx] at h
  unfold intsD at h
  rw [List.getElem?_map] at h
  cases q : xs[i]? with
  | none => rw [q] at h; cases h
  | some c =>
    rw [q] at h
    exact ⟨c, rfl, by simpa using h.symm⟩
theorem enum_len (xs : List Int) : ((intsD xs).zipIdx.map fun q => pairD (dInt (q.2 : Int)) q.1).length = xs.length := by rw [List.length_map, List.length_zipIdx, intsD_len]
theorem pl_seen {m : Nat} (s : Shelf) : plD (m + 2) (seenD s) := .tup (plD.cons (pl_ints _) (plD.cons (pl_tupI _) plD.nil))
theorem revmap_mem {α : Type} {f : α → D} {l : List α} {i : Nat} {d : D} (h : ((l.map f).reverse)[i]? = some d) : ∃ x ∈ l, d = f x := by
  have := List.mem_of_getElem? h
  rw [List.mem_reverse] at this
  obtain ⟨x, hx, rfl⟩ := List.mem_map.mp this
  exact ⟨x, hx, rfl⟩
end KS
set_option maxHeartbeats 1000000
namespace RT
open PySem PySem.Spec PyProof.Rows
section
variable {prog : Program} {w : World} {A : Around} {E : Value → Shared → Prop} {s : Shared}
theorem extend_rev {R : Result → Shared → Prop} {it l : Addr} {items : Array Value} (hh : A.handled = none) (hit : s.heap.IsRevIter it l ((items.size : Int) - 1)) (hl : s.heap.IsList l items) (hne : l ≠ it) (hn : items.size ≤ sizeLine) (S : Addr) (res : Value) (c₀ : Nat)
    (hS : s.heap.get? S = some { cls := .type "list", data := .seq #[] c₀ }) (hSi : S ≠ it) (hSl : S ≠ l)
    (hR : ∀ h' tk acc' c', (∀ b o, b ≠ S → b ≠ it → s.heap.get? b = some o → h'.get? b = some o) → h'.get? S = some { cls := .type "list", dict := none, data := .seq acc' c', slots := #[] } →
      ItemsOf (fun i v => items[items.size - 1 - i]? = some v) acc' items.size → R (.ok (.ret res)) { s with heap := h', toks := tk }) :
    wpAny (model prog w) A.in1 (Builtin.List.listExtendWith (.ref S) (.ref it) res)
      (fun fin s' => match fin with | .done f => R (.ok f) s' | .again c' => c'.quiet = true ∧ codeAny (model prog w) A c' R s') (fun e s' => R (.error e) s') s := by
  have W := (Walks.listRev (prog := prog) (w := w) (A := A.in1) hh it l hne items).toS
  have hSf : S ∉ [it, l] := by simp only [List.mem_cons, List.not_mem_nil, or_false, not_or]; exact ⟨hSi, hSl⟩
  have hT : s.TypeIs (.ref it) "list_reverseiterator" := Heap.IsRevIter.typeIs (s := s) hit
  have h1 : Builtin.List.listSameRef (.ref S) (.ref it) = false := by simp [Builtin.List.listSameRef, hSi]
  unfold Builtin.List.listExtendWith
  refine wpAny_bind (wpAny_typeOf hT ?_)
  rw [if_neg (by rw [h1]; decide)]
  refine wpAny_bind (wpAny_pyIter_revIter (s := s) hit ?_)
  refine wpAny_bind (wpAny_holding ?_)
  unfold Builtin.List.listLengthHint
  refine wpAny_bind (wpAny_specialOf hT nolen_lri ?_)
  show wpAny _ A.in1 (specialOf (Value.ref it) (Str.ofString "__length_hint__") >>= _) _ _ _
  refine wpAny_bind (wpAny_specialOf hT hint_lri ?_)
  generalize hid : ("list_reverseiterator.__length_hint__" : String) = id0
  wp_delta
  rw [show splitId id0 = some ("list_reverseiterator", "__length_hint__") from by subst hid; decide +kernel]
  subst hid
  refine wpAny_bind (wpAny_isInstance (b := true) hT (by rw [isSubtype_type]; kernel_rfl) ?_)
  refine wpAny_pure ?_
  rw [if_neg (by decide)]
  have e0 : ((items.size : Nat) : Int) - 1 - ((0 : Nat) : Int) = (items.size : Int) - 1 := by omega
  refine wpAny_pure ⟨plainId_quiet F.plain_extend_loop _, codeAny_extend_loopS W hn S hSf res items.size 0 _ _ c₀ rfl (Nat.zero_le _) ⟨Nat.zero_le _, by rw [e0]; exact hit, hl⟩ hS (ItemsOf.nil _) fun s' acc' c' hm hS' hacc => ?_⟩
  rw [Moved.eq_with hm]
  refine hR s'.heap s'.toks acc' c' (fun b o hb hb2 e => hm.heap b o (fun hmem => ?_) e) hS' hacc
  rcases List.mem_cons.mp hmem with e' | hmem
  · exact hb e'
  · exact hb2 (List.mem_singleton.mp hmem)
theorem call_list_rev {it l : Addr} {items : Array Value} {Q : Value → Shared → Prop} (hh : A.handled = none) (hit : s.heap.IsRevIter it l ((items.size : Int) - 1)) (hl : s.heap.IsList l items) (hne : l ≠ it) (hn : items.size ≤ sizeLine)
    (hQ : ∀ h' tk acc' c', (∀ b o, b ≠ it → s.heap.get? b = some o → h'.get? b = some o) →
      h'.get? s.heap.objs.size = some { cls := .type "list", dict := none, data := .seq acc' c', slots := #[] } → ItemsOf (fun i v => items[items.size - 1 - i]? = some v) acc' items.size → Q (.ref s.heap.objs.size) { s with heap := h', toks := tk }) :
    wpAny (model prog w) A (call (.type "list") [.ref it]) Q E s := by
  obtain ⟨oi, hoi, _⟩ := id hit
  obtain ⟨ol, hol, _⟩ := id hl
  have hSi : s.heap.objs.size ≠ it := Nat.ne_of_gt (Heap.lt_size hoi)
  have hSl : s.heap.objs.size ≠ l := Nat.ne_of_gt (Heap.lt_size hol)
  refine callType_codes (Q₁ := fun obj s₁ => obj = .ref s.heap.objs.size ∧ s₁ = { s with heap := s.heap.push { cls := .type "list", data := .seq #[] } }) F.called_list (F.typeCall_list_1 _) F.entry_list_init
    (code_list_new _ ⟨rfl, rfl⟩) fun obj s₁ h₁ => ?_
  obtain ⟨rfl, rfl⟩ := h₁
  have hS : (s.heap.push { cls := .type "list", data := .seq #[] }).get? s.heap.objs.size = some { cls := .type "list", data := .seq #[] } := Heap.get?_push_size _ rfl
  refine ⟨⟨_, hS, rfl⟩, F.args_list_init_2 _ _, ?_⟩
  show wpAny _ _ (do let old ← Builtin.List.listItems (.ref s.heap.objs.size); Builtin.List.listUpdate (.ref s.heap.objs.size) (fun _ => #[]); letGo old.toList.reverse; Builtin.List.listExtendWith (.ref s.heap.objs.size) (.ref it) .none) _ _ _
  refine wpAny_bind ?_
  unfold Builtin.List.listItems
  refine wpAny_bind (wpAny_seqItems hS rfl (wpAny_pure ?_))
  show wpAny _ _ (updateSeq s.heap.objs.size (fun _ => #[]) >>= fun _ => letGo (#[] : Array Value).toList.reverse >>= fun _ => Builtin.List.listExtendWith (.ref s.heap.objs.size) (.ref it) .none) _ _ _
  refine wpAny_bind (wpAny_updateSeq hS rfl ?_)
  have hS₂ := Heap.get?_update_self (Obj.mapSeq (fun _ => (#[] : Array Value))) hS rfl
  have oth : ∀ b o, s.heap.get? b = some o → ((s.heap.push { cls := .type "list", data := .seq #[] }).update s.heap.objs.size (Obj.mapSeq (fun _ => (#[] : Array Value)))).get? b = some o :=
    fun b o e => (Heap.get?_update_other _ _ (Nat.ne_of_gt (Heap.lt_size e))).trans (Heap.get?_push_of_some _ e)
  refine wpAny_bind (wpAny_letGo ?_)
  refine extend_rev (A := A.in1) hh (hit.at fun o e => oth _ o e) ?_ hne hn _ .none _ hS₂ hSi hSl fun h' tk acc' c' hk hS' hacc => ?_
  · obtain ⟨o, ho, r⟩ := hl
    exact ⟨o, oth _ o ho, r⟩
  · exact ⟨rfl, hQ h' tk acc' c' (fun b o hb e => hk b o (Nat.ne_of_lt (Heap.lt_size e)) hb (oth b o e)) hS' hacc⟩
end
end RT
namespace L2
open PySem PySem.Spec PyProof.Rows RT
def tLstRev (K : PySem.W.Frag) (te : TE) : TE := fun σ H Q => te σ H fun v H1 => ∃ (a : Addr) (xs : List V), v = .ref a ∧ SqL K H1 a xs ∧ ∀ q, H1 q = none → Q (.ref q) (upd H1 q (.lst xs.reverse))
theorem pe_lstRev {X : Cx} {e : Expr} {te : TE} {p p2 pos pos2 : Pos} (hc : X.calm = true) (hg : Gl X "list") (hm : X.mg "list" = none) (hg2 : Gl X "reversed") (hm2 : X.mg "reversed" = none) (he : PE X e te)
    (hs : starEach [e] X.env = (false, eval e X.env) :: starEach [] X.env := by rfl)
    (hs2 : starEach [.Call (.Name "reversed" p2) [e] [] pos2] X.env = (false, eval (.Call (.Name "reversed" p2) [e] [] pos2) X.env) :: starEach [] X.env := by rfl) :
    PE X (.Call (.Name "list" p) [.Call (.Name "reversed" p2) [e] [] pos2] [] pos) (tLstRev X.K te) := by
  refine ⟨fun pins s σ H Q I h => ?_⟩
  refine Call_ (ld_blt I hg hm boot_list (PyProof.Rows.callWith_type1 (args_cons (Call_ (ld_blt I hg2 hm2 PyProof.Rows.boot_reversed (PyProof.Rows.callWith_type1 (args_cons (thn (he.run pins s σ H _ I h) fun u s1 ⟨v, H1, I1, r1, q1⟩ => args_nil ?_) hs) hs rfl))) hs2) hs2 rfl))
  obtain ⟨a, xs, ev, hq, q⟩ := q1
  subst ev
  obtain rfl : u = Value.ref a := r1
  obtain ⟨its, rv, p', hz⟩ := I1.list hq
  refine call_reversed_list p'.isList (args_nil ?_)
  have k0 : ∀ b o, s1.heap.get? b = some o → (s1.heap.push (revObj a ((its.toArray.size : Int) - 1))).get? b = some o := fun b o e => Heap.get?_push_of_some _ e
  have I2 : Inv X pins σ H1 { s1 with heap := s1.heap.push (revObj a ((its.toArray.size : Int) - 1)) } := I1.kept (t' := s1.toks) k0
  obtain ⟨f0, f1, f2, f3, f4, f5⟩ := I1.fpOk (H' := H1) (b := s1.heap.objs.size) (Nat.le_refl _) (I1.hok.fresh (Nat.le_refl _))
  have hl := p'.isList
  obtain ⟨ol, hol, _⟩ := id hl
  have hne : a ≠ s1.heap.objs.size := Nat.ne_of_lt (Heap.lt_size hol)
  have hn : its.toArray.size ≤ sizeLine := by rw [List.size_toArray, ← rv.length]; exact hz
  refine call_list_rev (s := { s1 with heap := s1.heap.push (revObj a ((its.toArray.size : Int) - 1)) }) (I1.ok.hd hc) ⟨_, Heap.get?_push_size _ rfl, rfl, rfl⟩ (hl.push _) hne hn fun h' tk acc c' hk hS hi => ?_
  have hk1 : ∀ b o, s1.heap.get? b = some o → h'.get? b = some o := fun b o e => hk b o (Nat.ne_of_lt (Heap.lt_size e)) (k0 b o e)
  have hsz : s1.heap.objs.size ≤ (s1.heap.push (revObj a ((its.toArray.size : Int) - 1))).objs.size := by simp [Heap.push]
  refine ⟨.ref (s1.heap.push (revObj a ((its.toArray.size : Int) - 1))).objs.size, upd H1 (s1.heap.push (revObj a ((its.toArray.size : Int) - 1))).objs.size (.lst xs.reverse), I1.laid hk1 hsz (show ObjOk X.prog X.w _ _ _ (.lst xs.reverse) from ⟨by rw [List.length_reverse]; exact hz, acc.toList, c', vals_rev rv hi, ?_⟩), rfl, q _ (I1.hok.fresh hsz)⟩
  rw [Array.toArray_toList]; exact hS
end L2
namespace DL
open PySem PySem.Spec PyProof.Rows L2
section
variable {C : Ctx} {S : DS} {M M1 : Mem} {e : Expr} {d : D} {ds : List D} {pos pos2 p p2 : Pos}
theorem Reps.rev {K : PySem.W.Frag} {w : Wd} : ∀ {ds : List D} {vs : List V}, Reps K w ds vs → Reps K w ds.reverse vs.reverse
  | [], vs, h => by rw [reps_nil] at h; subst h; exact reps_nil'
  | d :: ds, vs, h => by
    rw [reps_cons] at h
    obtain ⟨y, ys, rfl, r, s⟩ := h
    rw [List.reverse_cons, List.reverse_cons]
    exact (Reps.rev s).append (reps_cons' r reps_nil')
/-- list(reversed(e)) -/
theorem ed_listRev (h : ED C S M e d M1) (hv : LV M1 d ds) (hc : C.calm = true) (hm : C.mg "list" = none) (hm2 : C.mg "reversed" = none) (hg : ∀ p, (C.env p).kindOf "list" = some .globalImplicit := by intro _; rfl) (hg2 : ∀ p, (C.env p).kindOf "reversed" = some .globalImplicit := by intro _; rfl)
    (hs : ∀ p, starEach [e] (C.env p) = (false, eval e (C.env p)) :: starEach [] (C.env p) := by intro _; rfl)
    (hs2 : ∀ p, starEach [.Call (.Name "reversed" p2) [e] [] pos2] (C.env p) = (false, eval (.Call (.Name "reversed" p2) [e] [] pos2) (C.env p)) :: starEach [] (C.env p) := by intro _; rfl) :
    ED C S M (.Call (.Name "list" p) [.Call (.Name "reversed" p2) [e] [] pos2] [] pos) (.lst ds.reverse) M1 :=
  ED.of (t := tLstRev C.K (wE C e)) (fun X hX => by cases hX with | mk p s0 H0 outer stack ex pn xe hpn => exact pe_lstRev hc (hg p) hm (hg2 p) hm2 (pe_w (.mk p s0 H0 outer stack ex pn xe hpn)) (hs p) (hs2 p)) fun w σ H hs hr Q q =>
    h w σ H hs hr _ fun w1 H1 y l s1 r1 => by
      obtain ⟨a, vs, rfl, st, rs⟩ := s1.lv hv r1
      refine ⟨a, vs, rfl, st, fun q' hq' => ?_⟩
      obtain ⟨g, s4, r4⟩ := s1.put_lst rs.rev hq'
      exact q _ _ _ (l.trans g) s4 r4
end
end DL
set_option maxHeartbeats 400000
namespace DL
open PySem PySem.Spec PyProof.Rows L2
section
variable {C : Ctx} {S S' S1 : DS} {M M1 M2 M' : Mem} {tg a b e elt : Expr} {es ifs : List Expr} {items ds ds2 : List D} {d da db : D} {pos p2 : Pos} {PM : Mem → Prop} {scope : Scope} {own : List (Str × Nat)} {k : Bool}
/-- y = [..], a list that nobody changes, in whose turns things are made -/
theorem sd_setLcG {n : Nat} {y : Str} {py spos : Pos} (j : Nat) (hn : items.length = n) (hc : C.calm = true) (hN : C.N.Nodup) (ok : ∀ p, BlkOk C.N (C.env p).scope scope own) (hi : ID C S M tg e items PM M1) (f : Nat → List D) (Ms : Nat → Mem) (h0 : Ms 0 = M1) (hpm : ∀ i, i ≤ n → PM (Ms i)) (hsz : n ≤ 100000)
    (ht : ∀ i d, items[i]? = some d → LcTurn C scope (ownIx own) S tg elt ifs d (f i) (Ms i) (Ms (i + 1))) (hy : C.N[j]? = some y := by rfl) (hyl : ∀ p, (C.env p).scope.names.lookup y = some .local := by intro _; rfl)
    (hsw : ∀ p, swapsWith (.ListComp elt [⟨tg, e, ifs, 0⟩] scope pos) (some (.Name y py)) spos.line (C.env p) = pure true := by intro _; exact sw_true rfl rfl rfl (by decide +kernel)) (hf : ∀ p, ∀ x, foldedSetIterable e (C.env p) x = pure x := by intro _ _; rfl) :
    SD C S M (.Assign [.Name y py] (.ListComp elt [⟨tg, e, ifs, 0⟩] scope pos) spos) (.nx (S.set j (some (.lst ((List.range n).map f).flatten))) (Ms n)) := by
  subst hn
  exact SD.of (t := fun _ => tAsg (tLc (wI C tg e) (wG (C.blk scope) tg) (wTs (C.blk scope) ifs) (wE (C.blk scope) elt) (ownIx own)) (gName j)) (fun W X hX ow => by
    have hb := fun s H c cl fp => hX.blk scope s H c cl fp
    cases hX with | mk p s0 H0 outer stack ex pn xe hpn =>
      exact ps_setLc hc hN hy (hyl p) (hsw p) (pi_w (.mk p s0 H0 outer stack ex pn xe hpn)) (ok p) (fun s H c cl fp => pg_w (hb s H c cl fp)) (fun s H c cl fp => pts_w (hb s H c cl fp)) (fun s H c cl fp => pe_w (hb s H c cl fp)) (hf p)) fun W E w σ H hsat hr q =>
    lc_read hi f Ms h0 hpm hsz ht w σ H hsat hr (fun x H1 => gName j x σ H1 E.nx) fun w' H' p ys l s h1 h2 h3 h4 r =>
      q _ H' _ (l.fzn h2 h3) (s.fzn h1 h2 h4) ((hr.go (l.fzn h2 h3)).set (rep_lst.mpr ⟨p, ys, rfl, SqL.of upd_same, r.mono (Wd.le_put h2)⟩))
end
/-! ### bodies of loops by what holds behind them -/
/-- a body has been run: the slots are at least S, the memory is such -/
def Turned (S : DS) (J : Mem → Prop) : Out → Prop
  | .nx S2 M2 => Ge S2 S ∧ J M2
  | .ct S2 M2 => Ge S2 S ∧ J M2
  | _ => False
section
variable {C : Ctx} {S S1 S2 T : DS} {M M1 M2 : Mem} {sts body rest as bs : List Stmt} {st : Stmt} {tg e c : Expr} {items : List D} {pos : Pos} {PM : Mem → Prop} {Pp : Out → Prop}
theorem exs_turned {J : Mem → Prop} (h : J M) (g : Ge S T := by repeat (first | exact trivial | refine ⟨.inl rfl, ?_⟩ | refine ⟨.inr rfl, ?_⟩)) : ∃ o, Turned T J o ∧ SDs C S M [] o := ⟨.nx S M, ⟨g, h⟩, sds_nil⟩
theorem exs_forI (Iv : Nat → Mem → Prop) (hi : ID C S M tg e items PM M1) (hc : C.calm = true) (h0 : Iv 0 M1) (hpm : ∀ i M, Iv i M → PM M)
    (hs : ∀ i d M, items[i]? = some d → Iv i M → ∃ S1 vs, GD C S tg d S1 vs ∧ ∃ o, Turned S (Iv (i + 1)) o ∧ SDs C S1 M body o)
    (hr : ∀ M', Iv items.length M' → ∃ o, Pp o ∧ SDs C S M' rest o) (hf : ∀ p, ∀ x, foldedSetIterable e (C.env p) x = pure x := by intro _ _; rfl) : ∃ o, Pp o ∧ SDs C S M (.For tg e body [] pos :: rest) o := by
  obtain ⟨S', M', ⟨rfl, hv⟩, h⟩ := sd_for (pos := pos) (body := body) hi hc (fun i S' M' => S' = S ∧ Iv i M') ⟨rfl, h0⟩ (fun i S' M' h => hpm i M' h.2) (fun i d S' M' hd hv => by
    obtain ⟨rfl, hv⟩ := hv
    obtain ⟨S1, vs, hg, o, ho, hb⟩ := hs i d M' hd hv
    cases o with
    | nx S2 M2 => exact ⟨S1, vs, S', M2, hg, .inl (hb.nxge ho.1), rfl, ho.2⟩
    | ct S2 M2 => exact ⟨S1, vs, S', M2, hg, .inr (hb.ctge ho.1), rfl, ho.2⟩
    | rt _ _ => exact ho.elim
    | bk _ _ => exact ho.elim
    | er _ _ _ => exact ho.elim) hf
  obtain ⟨o, p, h2⟩ := hr M' hv
  exact ⟨o, p, sds_cons h h2⟩
theorem exs_join {Q : DS → Mem → Prop} (h1 : ∃ S1 M1, Q S1 M1 ∧ SD C S M st (.nx S1 M1)) (h2 : ∀ S1 M1, Q S1 M1 → ∃ o, Pp o ∧ SDs C S1 M1 rest o) : ∃ o, Pp o ∧ SDs C S M (st :: rest) o := by
  obtain ⟨S1, M1, q, h⟩ := h1
  obtain ⟨o, p, h2⟩ := h2 S1 M1 q
  exact ⟨o, p, sds_cons h h2⟩
/-- an if: both suites end in such a state -/
theorem sd_ifQ {k : Bool} {Q : DS → Mem → Prop} (h : TD C S M c k M1) (h1 : k = true → ∃ S1 M2, Q S1 M2 ∧ SDs C S M1 as (.nx S1 M2)) (h2 : k = false → ∃ S1 M2, Q S1 M2 ∧ SDs C S M1 bs (.nx S1 M2)) : ∃ S1 M2, Q S1 M2 ∧ SD C S M (.If c as bs pos) (.nx S1 M2) := by
  cases k with
  | true =>
    obtain ⟨S1, M2, q, h1⟩ := h1 rfl
    exact ⟨S1, M2, q, sd_ifT h rfl h1⟩
  | false =>
    obtain ⟨S1, M2, q, h2⟩ := h2 rfl
    exact ⟨S1, M2, q, sd_ifF h rfl h2⟩
end
theorem flat_one {α β : Type} (g : α → β) : ∀ l : List α, (l.map fun a => [g a]).flatten = l.map g
  | [] => rfl
  | a :: l => by rw [List.map_cons, List.flatten_cons, flat_one g l]; rfl
end DL
set_option maxHeartbeats 400000
namespace DL
open PySem PySem.Spec PyProof.Rows L2
section
variable {C : Ctx} {S S' S1 : DS} {M M1 M2 M' J : Mem} {tg a b e elt : Expr} {es ifs : List Expr} {items ds ds2 : List D} {d da db : D} {pos p2 : Pos} {k : Bool}
/-! ### what an expression leaves behind is forgotten -/
theorem SatM.fgt {K : PySem.W.Frag} {w w' : Wd} {H H' : Hp} (s0 : SatM K w H M) (l : Go w H w' H') (s : SatM K w' H' (M ++ J)) : Go w H (w'.cut M.length) H' ∧ SatM K (w'.cut M.length) H' M :=
  ⟨l.cut (by rw [s0.len]; exact Nat.le_refl _), s.forget fun mo m => s0.under m⟩
theorem ED.fgt (h : ED C S M e d (M ++ J)) (hd : D.under M.length d) : ED C S M e d M := fun w σ H hs hr Q q => h w σ H hs hr Q fun w' H' y l s r => by
  obtain ⟨l2, s2⟩ := hs.fgt l s
  exact q _ H' y l2 s2 (r.cut hd)
theorem TD.fgt (h : TD C S M e k (M ++ J)) : TD C S M e k M := fun w σ H hs hr Q q => h w σ H hs hr Q fun w' H' l s => by
  obtain ⟨l2, s2⟩ := hs.fgt l s
  exact q _ H' l2 s2
theorem WD.fgt (h : WD C S M e k (M ++ J)) : WD C S M e k M := fun w σ H hs hr Q q => h w σ H hs hr Q fun w' H' l s => by
  obtain ⟨l2, s2⟩ := hs.fgt l s
  exact q _ H' l2 s2
/-! ### is -/
def refD : D → Bool
  | .v _ => false
  | _ => true
theorem rep_ref {K : PySem.W.Frag} {w : Wd} {y : V} (h : refD d = true) (r : Rep K w d y) : ∃ p, y = .ref p := by
  cases d with
  | v x => cases h
  | tup ds =>
    rw [rep_tup] at r
    obtain ⟨p, _, e, _⟩ := r
    exact ⟨p, e⟩
  | lst ds =>
    rw [rep_lst] at r
    obtain ⟨p, _, e, _⟩ := r
    exact ⟨p, e⟩
  | res n =>
    rw [rep_res] at r
    obtain ⟨p, _, e⟩ := r
    exact ⟨p, e⟩
theorem td_isND {j : Nat} {q : Pos} (h : ED C S M a d M1) (hd : refD d = true := by rfl) : TD C S M (.Compare a [.Is] [.Constant .none j q] pos) false M1 :=
  td_cmpR (fun _ _ => op_isN) h ed_non (fun w H x y hs hx hy Q q => by
    obtain ⟨p, rfl⟩ := rep_ref hd hx
    rw [rep_v] at hy
    exact ⟨hy, q w H _ (.refl w) hs rep_v'⟩) (nomark _)
theorem td_notND {j : Nat} {q : Pos} (h : ED C S M a d M1) (hd : refD d = true := by rfl) : TD C S M (.Compare a [.IsNot] [.Constant .none j q] pos) true M1 :=
  td_cmpR (fun _ _ => op_notN) h ed_non (fun w H x y hs hx hy Q q => by
    obtain ⟨p, rfl⟩ := rep_ref hd hx
    rw [rep_v] at hy
    exact ⟨hy, q w H _ (.refl w) hs rep_v'⟩) (nomark _)
theorem ed_isN {j : Nat} {q : Pos} {v : V} (h : ED C S M a (.v v) M1) : ED C S M (.Compare a [.Is] [.Constant .none j q] pos) (.v (.bl (decide (v = .non)))) M1 :=
  ed_cmpR (fun _ _ => op_isN) h ed_non (fun w H x y hs hx hy Q q => by
    rw [rep_v] at hx hy
    exact ⟨hy, by rw [hx]; exact q w H _ (.refl w) hs rep_v'⟩) (nomark _)
theorem ed_isND {j : Nat} {q : Pos} (h : ED C S M a d M1) (hd : refD d = true := by rfl) : ED C S M (.Compare a [.Is] [.Constant .none j q] pos) (.v (.bl false)) M1 :=
  ed_cmpR (fun _ _ => op_isN) h ed_non (fun w H x y hs hx hy Q q => by
    obtain ⟨p, rfl⟩ := rep_ref hd hx
    rw [rep_v] at hy
    exact ⟨hy, q w H _ (.refl w) hs rep_v'⟩) (nomark _)
theorem ed_isB {x y : Bool} (h : ED C S M a (.v (.bl x)) M1) (h2 : ED C S M1 b (.v (.bl y)) M2) : ED C S M (.Compare a [.Is] [b] pos) (.v (.bl (decide (x = y)))) M2 :=
  ed_cmpR (fun _ _ => op_isBl) h h2 (fun w H u v hs hx hy Q q => by
    rw [rep_v] at hx hy
    exact ⟨x, y, hx, hy, q w H _ (.refl w) hs rep_v'⟩) (nomark _)
theorem td_isB {x y : Bool} (h : ED C S M a (.v (.bl x)) M1) (h2 : ED C S M1 b (.v (.bl y)) M2) : TD C S M (.Compare a [.Is] [b] pos) (decide (x = y)) M2 :=
  td_cmpR (fun _ _ => op_isBl) h h2 (fun w H u v hs hx hy Q q => by
    rw [rep_v] at hx hy
    exact ⟨x, y, hx, hy, q w H _ (.refl w) hs rep_v'⟩) (nomark _)
/-! ### sorted of ints -/
def sortN (L : List Int) : List Int := L.mergeSort fun a b => decide (a ≤ b)
theorem sortN_perm (L : List Int) : (sortN L).Perm L := List.mergeSort_perm _ _
theorem sortN_asc (L : List Int) : (sortN L).Pairwise (· ≤ ·) := by
  have h := List.pairwise_mergeSort (le := fun a b : Int => decide (a ≤ b)) (fun a b c h1 h2 => decide_eq_true (Int.le_trans (of_decide_eq_true h1) (of_decide_eq_true h2))) (fun a b => by
    rcases Int.le_total a b with h | h <;> simp [h]) L
  exact h.imp fun h => of_decide_eq_true h
theorem ascN_unique {L M : List Int} (h1 : L.Pairwise (· ≤ ·)) (h2 : M.Pairwise (· ≤ ·)) (p : L.Perm M) : L = M := p.eq_of_pairwise (le := (· ≤ ·)) (fun a b _ _ h h' => Int.le_antisymm h h') h1 h2
theorem sortN_eq {L M : List Int} (h : M.Pairwise (· ≤ ·)) (p : M.Perm L) : M = sortN L := ascN_unique h (sortN_asc L) (p.trans (sortN_perm L).symm)
theorem sortN_congr {L M : List Int} (p : L.Perm M) : sortN L = sortN M := sortN_eq (sortN_asc L) ((sortN_perm L).trans p)
theorem rc_sortN {xs : List Int} (hv : LV M d (intsD xs)) (hl : xs.length < 64) : RC C (rSorted C.K) M [d] (.lst (intsD (sortN xs))) M := fun w H vs hs r Q q => by
  obtain ⟨y, rfl, r1⟩ := reps_one r
  obtain ⟨p, us, rfl, st, rs⟩ := hs.lv hv r1
  have e : ∀ ys : List Int, intsD ys = (ys.map V.int).map D.v := fun ys => by rw [List.map_map]; rfl
  rw [e, reps_vs] at rs
  subst rs
  refine ⟨p, xs, rfl, st, hl, fun ys l hp hs2 hl2 => ?_⟩
  have hy : ys = sortN xs := sortN_eq hs2 hp
  subst hy
  obtain ⟨g, s4, r4⟩ := hs.put_lst (ds := intsD (sortN xs)) (ys := (sortN xs).map V.int) (by rw [e, reps_vs]) hl2
  exact q _ _ _ g s4 r4
theorem ed_sortN {xs : List Int} (h : ED C S M e d M1) (hv : LV M1 d (intsD xs)) (hl : xs.length < 64) (hm : C.mg "sorted" = none) (hg : ∀ p, (C.env p).kindOf "sorted" = some .globalImplicit := by intro _; rfl)
    (he : ∀ p, starEach [e] (C.env p) = (false, eval e (C.env p)) :: starEach [] (C.env p) := by intro _; rfl) : ED C S M (.Call (.Name "sorted" p2) [e] [] pos) (.lst (intsD (sortN xs))) M1 :=
  ed_callB (r := rSorted C.K) (fun X hX => by
    have z := cr_sorted (X := X)
    cases hX with | mk p => exact z) (ad_cons h ad_nil he) (rc_sortN hv hl) hm boot_sorted hg (by decide) (by decide) he
/-! ### in, as a value -/
theorem ed_inM (hA : C.A.units + 65 < cLine) {pa : PyData} {ps : List PyData} (h1 : ED C S M a da M1) (h2 : ED C S M1 b db M2) (c1 : CmpM C.K M2 da pa) (c2 : CmpM C.K M2 db (.list ps)) (s1 : SeqAt.shaped pa = true) (s2 : SeqAt.shaped (.list ps) = true) (hm : behindInMarks .In b = false := by with_unfolding_all rfl) :
    ED C S M (.Compare a [.In] [b] pos) (.v (.bl (ps.any fun z => PyData.eqv z pa))) M2 := ed_cmpR (r := rInD C.K) (fun X hX => by
      have z : X.A.units + 65 < cLine → OpR X (compareOp .In) (rInD X.K) := op_inD
      cases hX with | mk p => exact z hA) h1 h2 (fun w H x y hs hx hy Q q => ⟨_, _, c1 w H x hs hx, c2 w H y hs hy, s1, s2, q w H _ (.refl w) hs rep_v'⟩) hm
theorem ed_neD (hA : C.A.units + 64 < cLine) (h1 : ED C S M a da M1) (h2 : ED C S M1 b db M2) (c1 : CmpOk da) (c2 : CmpOk db) : ED C S M (.Compare a [.NotEq] [b] pos) (.v (.bl (!PyData.eqv (pyd da) (pyd db)))) M2 := ed_neM hA h1 h2 (cm_flat c1.fl) (cm_flat c2.fl) c1.sh c2.sh
/-! ### or, and whose first part is known -/
theorem wd_orF {rest : List Expr} (h : TD C S M a false M1) (h2 : WD C S M1 (.BoolOp .Or (b :: rest) pos) k M2) : WD C S M (.BoolOp .Or (a :: b :: rest) pos) k M2 :=
  WD.of (fun X hX => pw_or (pt_w hX) (pw_w hX)) fun w σ H hs hp Q q => h w σ H hs hp _ fun w' H' l s => h2 w' σ H' s (hp.go l) Q fun w2 H2 l2 s2 => q w2 H2 (l.trans l2) s2
theorem wd_andT {rest : List Expr} (h : TD C S M a true M1) (h2 : WD C S M1 (.BoolOp .And (b :: rest) pos) k M2) : WD C S M (.BoolOp .And (a :: b :: rest) pos) k M2 :=
  WD.of (fun X hX => pw_and (pt_w hX) (pw_w hX)) fun w σ H hs hp Q q => h w σ H hs hp _ fun w' H' l s => h2 w' σ H' s (hp.go l) Q fun w2 H2 l2 s2 => q w2 H2 (l.trans l2) s2
theorem any_dInts (v : Int) : ∀ vs : List Int, ((pyds (intsD vs)).any fun z => PyData.eqv z (pyd (dInt v))) = decide (v ∈ vs)
  | [] => rfl
  | x :: vs => by
    have h := any_dInts v vs
    unfold intsD at h ⊢
    simp only [List.map_cons, pyds, List.any_cons] at h ⊢
    rw [h]
    by_cases e : x = v
    · subst e; simp [pyd, PyData.eqv]
    · have : v ≠ x := fun z => e z.symm
      simp [e, this, pyd, PyData.eqv]
end
end DL
set_option maxHeartbeats 400000
namespace KS
open PySem PySem.Spec PyProof.Rows L2 DL
/-! ### dicts of one key -/
def OneD (key : Str) (d : Dct) : Prop := d = [] ∨ ∃ s, d = [(key, s)]
section
variable {key : Str} {d : Dct} {n : Nat}
theorem OneD.put (h : OneD key d) (s : Shelf) : putS d key s = [(key, s)] := by
  rcases h with rfl | ⟨s', rfl⟩
  · rfl
  · unfold putS; simp
theorem OneD.put' (h : OneD key d) (s : Shelf) : OneD key (putS d key s) := .inr ⟨s, h.put s⟩
theorem OneD.len (h : OneD key d) : d.length ≤ 1 := by
  rcases h with rfl | ⟨s', rfl⟩ <;> simp
theorem OneD.get (h : OneD key d) : (d = [] ∧ getS n d key = (blankI n, [])) ∨ d = [(key, getS n d key)] := by
  rcases h with rfl | ⟨s', rfl⟩
  · exact .inl ⟨rfl, rfl⟩
  · right
    unfold getS getO
    simp
theorem OneD.keys (h : OneD key d) : (d.filter fun p => !p.2.2.isEmpty).map (fun p => D.v (.str p.1)) = (List.replicate (if (!decide ((getS n d key).2 = [])) then (1 : Int) else 0).toNat [D.v (.str key)]).flatten := by
  rcases h.get (n := n) with ⟨h1, h2⟩ | h1
  · rw [h2, h1]; rfl
  · generalize getS n d key = s at h1
    rw [h1]
    by_cases e : s.2 = []
    · simp [e]
    · have : s.2.isEmpty = false := by
        cases hq : s.2 with
        | nil => exact absurd hq e
        | cons a l => rfl
      simp [e, this]
theorem OneD.keysl (h : OneD key d) : (d.filter fun p => !p.2.2.isEmpty).length ≤ 1 := Nat.le_trans (List.length_filter_le _ _) h.len
theorem oneD_rep (key : Str) (n : Nat) : ∀ d ∈ List.replicate n ([] : Dct), OneD key d := fun d hd => by
  rw [List.eq_of_mem_replicate hd]; exact .inl rfl
end
/-! ### shelves side by side: what each keeper has put only it counts on -/
def withinB (a b : List Int) : Bool := (List.zipWith (fun x y => decide (x ≤ y)) a b).all id
def sWithin0 : Spc := fun ds M r => ∃ a b : List Int, ds = [tupI a, tupI b] ∧ a.length = b.length ∧ a.length ≤ 1000 ∧ r = .ok (.v (.bl (withinB a b))) M
theorem withinB_of {a b : List Int} (hl : a.length = b.length) (h : ∀ k : Nat, a.getD k 0 ≤ b.getD k 0) : withinB a b = true := by
  unfold withinB
  rw [List.all_eq_true]
  intro x hx
  obtain ⟨i, hi⟩ := List.getElem?_of_mem hx
  rw [List.getElem?_zipWith] at hi
  have hk := h i
  rw [List.getD_eq_getElem?_getD, List.getD_eq_getElem?_getD] at hk
  cases ea : a[i]? with
  | none => rw [ea] at hi; simp at hi
  | some u =>
    cases eb : b[i]? with
    | none => rw [ea, eb] at hi; simp at hi
    | some v =>
      rw [ea, eb] at hi hk
      have : decide (u ≤ v) = x := by simpa using hi
      rw [← this]
      simpa using hk
theorem valsI_mem {L : List (List Int)} {v : Int} : v ∈ valsI L ↔ ∃ r ∈ L, r.getD 2 0 = v := by
  unfold valsI
  rw [List.mem_map]
/-- what a put by a hand that has looked at u is asked -/
structure PutOk (n : Nat) (s u : Shelf) (k : Nat) (v : Int) (fresh : Bool) : Prop where
  inn : v ∈ valsI (putShelf s u.1 k v).2
  fre : fresh = true → valsI (putShelf s u.1 k v).2 = [v]
  old : ∀ z ∈ valsI (putShelf s u.1 k v).2, z ≠ v → z ∈ valsI s.2 ∧ z ∉ valsI u.2
  bla : u.1 = blankI n → sortN (valsI (putShelf s u.1 k v).2) = sortN (valsI s.2 ++ [v])
  w1 : withinB u.1 (putShelf s u.1 k v).1 = true
  w2 : withinB s.1 (putShelf s u.1 k v).1 = true
  ne : (putShelf s u.1 k v).1 ≠ s.1
theorem putOk {n : Nat} {G : List (List Int)} {s u : Shelf} {k : Nat} {v : Int} {fresh : Bool} (gs : GS n G s) (gu : GS n G u) (hk : k < n) (dv : ∀ r ∈ G, ∀ r' ∈ G, r.getD 2 0 = r'.getD 2 0 → r = r') (pos : ∀ r ∈ G, 1 ≤ r.getD 1 0) (own : u.1.getD k 0 ≤ s.1.getD k 0) (hf : fresh = true → u = s) : PutOk n s u k v fresh := by
  have hl : s.1.length = u.1.length := by rw [gs.len, gu.len]
  have hk' : k < s.1.length := by rw [gs.len]; exact hk
  have hlen : (putShelf s u.1 k v).1.length = s.1.length := by
    show ((joinI s.1 u.1).set k _).length = _
    rw [List.length_set, joinI_len hl]
  refine ⟨valsI_mem.mpr ⟨_, mem_put.mpr (.inr rfl), rfl⟩, fun h => ?_, fun z hz hne => ?_, fun hb => ?_, withinB_of (by rw [hlen, hl]) fun j => ?_, withinB_of hlen.symm (put_le hl hk'), fun e => ?_⟩
  · have := hf h
    subst this
    show valsI (sortI (u.2.filter (unseenB u.1) ++ _)) = [v]
    have e : u.2.filter (unseenB u.1) = [] := List.filter_eq_nil_iff.mpr fun r hr => by rw [gu.seen.no hr]; simp
    rw [e, List.nil_append]
    have : sortI [[(k : Int), u.1.getD k 0 + 1, v]] = [[(k : Int), u.1.getD k 0 + 1, v]] := sortI_of_asc (List.pairwise_singleton _ _)
    rw [this]; rfl
  · obtain ⟨r, hr, rfl⟩ := valsI_mem.mp hz
    rcases mem_put.mp hr with ⟨h1, h2⟩ | rfl
    · refine ⟨valsI_mem.mpr ⟨r, h1, rfl⟩, fun hu => ?_⟩
      obtain ⟨r', hr', e⟩ := valsI_mem.mp hu
      have := dv r' (gu.sub r' hr') r (gs.sub r h1) e
      subst this
      rw [gu.seen.no hr'] at h2
      cases h2
    · exact absurd rfl hne
  · refine sortN_congr ?_
    have e : s.2.filter (unseenB u.1) = s.2 := List.filter_eq_self.mpr fun r hr => by
      obtain ⟨j, m, z, y, rfl, hy, hm⟩ := gs.seen r hr
      have hp := pos _ (gs.sub _ hr)
      have hp' : 1 ≤ m := hp
      rw [hb]
      show (!decide (m ≤ (blankI n).getD ((j : Nat) : Int).toNat 0)) = true
      rw [blankI_getD]
      simp; omega
    show (valsI (sortI (s.2.filter (unseenB u.1) ++ _))).Perm _
    rw [e]
    refine ((sortI_perm _).map _).trans ?_
    rw [List.map_append]
    exact List.Perm.refl _
  · rw [put_getD hl hk']
    split
    · rename_i e; subst e; omega
    · omega
  · have := put_getD (v := v) hl hk' k
    rw [e, if_pos rfl] at this
    omega
/-! ### law 12: what is kept -/
structure Q12 where
  dc : List Dct
  lk : List Shelf
def Q12.sh (n : Nat) (q : Q12) (k : Nat) : Shelf := getS n (q.dc.getD k []) "k"
def T12 (q : Q12) : Mem := [.lst (q.lk.map seenD)]
def mem12 (Cl : Addr) (M0 : Mem) (n : Nat) (q : Q12) : Mem := memS Cl M0 n q.dc (T12 q)
def Q12.at (q : Q12) (k : Nat) (s : Shelf) : Q12 := { q with dc := q.dc.set k (putS (q.dc.getD k []) "k" s) }
structure Ok12 (n t : Nat) (G : List (List Int)) (q : Q12) : Prop where
  dl : q.dc.length = n
  gs : ∀ k, k < n → GS n G (q.sh n k)
  od : ∀ d ∈ q.dc, OneD "k" d
  lk : ∀ u ∈ q.lk, GS n G u
  ne : q.lk ≠ []
  lkl : q.lk.length ≤ 1 + t
  gl : G.length ≤ t
  own : ∀ k, k < n → (∀ u ∈ q.lk, u.1.getD k 0 ≤ (q.sh n k).1.getD k 0) ∧ ∀ j, j < n → (q.sh n j).1.getD k 0 ≤ (q.sh n k).1.getD k 0
  pos : ∀ r ∈ G, 1 ≤ r.getD 1 0
  val : ∀ r ∈ G, r.getD 2 0 < 1000 * (t : Int)
  dv : ∀ r ∈ G, ∀ r' ∈ G, r.getD 2 0 = r'.getD 2 0 → r = r'
theorem Q12.sh_at {n : Nat} {q : Q12} {k : Nat} (hk : k < q.dc.length) (s : Shelf) (j : Nat) : (q.at k s).sh n j = if j = k then s else q.sh n j := by
  unfold Q12.sh Q12.at
  rw [getD_set hk]
  by_cases e : j = k
  · rw [if_pos e, if_pos e, getS_put, if_pos rfl]
  · rw [if_neg e, if_neg e]
theorem Ok12.one {n t : Nat} {G : List (List Int)} {q : Q12} (h : Ok12 n t G q) {k : Nat} (hk : k < n) : OneD "k" (q.dc.getD k []) := h.od _ (mem_getD (by rw [h.dl]; exact hk))
theorem Ok12.put {n t : Nat} {G : List (List Int)} {q : Q12} (h : Ok12 n t G q) {k : Nat} (hk : k < n) {u : Shelf} (hu : u ∈ q.lk ∨ u = q.sh n k) {v : Int} (hv1 : 1000 * (t : Int) ≤ v) (hv2 : v < 1000 * ((t + 1 : Nat) : Int)) :
    Ok12 n (t + 1) (G ++ [[(k : Int), (q.sh n k).1.getD k 0 + 1, v]]) (q.at k (putShelf (q.sh n k) u.1 k v)) := by
  have hk2 : k < q.dc.length := by rw [h.dl]; exact hk
  have gu : GS n G u := by
    rcases hu with hu | rfl
    · exact h.lk u hu
    · exact h.gs k hk
  have gs := h.gs k hk
  have hl : (q.sh n k).1.length = u.1.length := by rw [gs.len, gu.len]
  have hk' : k < (q.sh n k).1.length := by rw [gs.len]; exact hk
  have hu' : ∀ i, i < n → u.1.getD i 0 ≤ (q.sh n i).1.getD i 0 := fun i hi => by
    rcases hu with hu | rfl
    · exact (h.own i hi).1 u hu
    · exact (h.own i hi).2 k hk
  have key : ∀ i, i < n → (q.sh n i).1.getD i 0 ≤ ((q.at k (putShelf (q.sh n k) u.1 k v)).sh n i).1.getD i 0 := fun i hi => by
    rw [Q12.sh_at hk2]
    by_cases e : i = k
    · rw [if_pos e, e]
      exact put_le hl hk' k
    · rw [if_neg e]
      exact Int.le_refl _
  refine ⟨by unfold Q12.at; rw [List.length_set]; exact h.dl, fun j hj => ?_, fun d hd => ?_, fun z hz => (h.lk z hz).mono fun x hx => List.mem_append_left _ hx, h.ne, Nat.le_trans h.lkl (by omega), ?_, fun i hi => ⟨fun z hz => Int.le_trans ((h.own i hi).1 z hz) (key i hi), fun j hj => ?_⟩, fun r hr => ?_, fun r hr => ?_, fun r hr r' hr' e => ?_⟩
  · rw [Q12.sh_at hk2]
    split
    · exact gs.put gu.len hk
    · exact (h.gs j hj).mono fun x hx => List.mem_append_left _ hx
  · rcases List.mem_or_eq_of_mem_set hd with hd | rfl
    · exact h.od d hd
    · exact (h.one hk).put' _
  · rw [List.length_append, List.length_singleton]
    have := h.gl
    omega
  · by_cases e : j = k
    · subst e
      rw [Q12.sh_at hk2 _ j, if_pos rfl]
      by_cases e2 : i = j
      · subst e2
        rw [Q12.sh_at hk2, if_pos rfl]
        exact Int.le_refl _
      · rw [Q12.sh_at hk2, if_neg e2, put_getD hl hk', if_neg e2]
        have h1 := (h.own i hi).2 j hj
        have h2 := hu' i hi
        omega
    · refine Int.le_trans ?_ (key i hi)
      rw [Q12.sh_at hk2 _ j, if_neg e]
      exact (h.own i hi).2 j hj
  · rcases List.mem_append.mp hr with hr | hr
    · exact h.pos r hr
    · have : r = [(k : Int), (q.sh n k).1.getD k 0 + 1, v] := by simpa using hr
      subst this
      have := gs.nn k
      show 1 ≤ (q.sh n k).1.getD k 0 + 1
      omega
  · rcases List.mem_append.mp hr with hr | hr
    · have := h.val r hr
      omega
    · have : r = [(k : Int), (q.sh n k).1.getD k 0 + 1, v] := by simpa using hr
      subst this
      exact hv2
  · rcases List.mem_append.mp hr with hr | hr <;> rcases List.mem_append.mp hr' with hr' | hr'
    · exact h.dv r hr r' hr' e
    · have : r' = [(k : Int), (q.sh n k).1.getD k 0 + 1, v] := by simpa using hr'
      subst this
      have h1 := h.val r hr
      have h2 : r.getD 2 0 = v := e
      omega
    · have : r = [(k : Int), (q.sh n k).1.getD k 0 + 1, v] := by simpa using hr
      subst this
      have h1 := h.val r' hr'
      have h2 : v = r'.getD 2 0 := e
      omega
    · have h1 : r = [(k : Int), (q.sh n k).1.getD k 0 + 1, v] := by simpa using hr
      have h2 : r' = [(k : Int), (q.sh n k).1.getD k 0 + 1, v] := by simpa using hr'
      rw [h1, h2]
theorem Ok12.mono {n t : Nat} {G : List (List Int)} {q : Q12} (h : Ok12 n t G q) : Ok12 n (t + 1) G q :=
  ⟨h.dl, h.gs, h.od, h.lk, h.ne, Nat.le_trans h.lkl (by omega), Nat.le_trans h.gl (by omega), h.own, h.pos, fun r hr => by
    have := h.val r hr
    omega, h.dv⟩
theorem Ok12.look {n t : Nat} {G : List (List Int)} {q : Q12} (h : Ok12 n t G q) {k : Nat} (hk : k < n) : Ok12 n (t + 1) G { q with lk := q.lk ++ [q.sh n k] } := by
  have m := h.mono
  refine ⟨m.dl, m.gs, m.od, fun u hu => ?_, by simp, ?_, m.gl, fun i hi => ⟨fun u hu => ?_, (h.own i hi).2⟩, m.pos, m.val, m.dv⟩
  · rcases List.mem_append.mp hu with hu | hu
    · exact h.lk u hu
    · have : u = q.sh n k := by simpa using hu
      subst this
      exact h.gs k hk
  · rw [List.length_append, List.length_singleton]
    have := h.lkl
    omega
  · rcases List.mem_append.mp hu with hu | hu
    · exact (h.own i hi).1 u hu
    · have : u = q.sh n k := by simpa using hu
      subst this
      exact (h.own i hi).2 k hk
theorem Ok12.take {n t : Nat} {G : List (List Int)} {q : Q12} (h : Ok12 n t G q) {j k : Nat} (hj : j < n) (hk : k < n) : Ok12 n (t + 1) G (q.at j (metShelf (q.sh n j) (q.sh n k).1 (q.sh n k).2)) := by
  have m := h.mono
  have hj2 : j < q.dc.length := by rw [h.dl]; exact hj
  have hl : (q.sh n j).1.length = (q.sh n k).1.length := by rw [(h.gs j hj).len, (h.gs k hk).len]
  have jn : ∀ i : Nat, (metShelf (q.sh n j) (q.sh n k).1 (q.sh n k).2).1.getD i 0 = max ((q.sh n j).1.getD i 0) ((q.sh n k).1.getD i 0) := fun i => joinI_getD hl i
  have key : ∀ i, i < n → ((q.at j (metShelf (q.sh n j) (q.sh n k).1 (q.sh n k).2)).sh n i).1.getD i 0 = (q.sh n i).1.getD i 0 := fun i hi => by
    rw [Q12.sh_at hj2]
    by_cases e : i = j
    · rw [if_pos e, jn, e]
      have := (h.own j hj).2 k hk
      omega
    · rw [if_neg e]
  refine ⟨by unfold Q12.at; rw [List.length_set]; exact h.dl, fun i hi => ?_, fun d hd => ?_, m.lk, m.ne, m.lkl, m.gl, fun i hi => ⟨fun u hu => ?_, fun l hl2 => ?_⟩, m.pos, m.val, m.dv⟩
  · rw [Q12.sh_at hj2]
    split
    · exact (h.gs j hj).met (h.gs k hk)
    · exact h.gs i hi
  · rcases List.mem_or_eq_of_mem_set hd with hd | rfl
    · exact h.od d hd
    · exact (h.one hj).put' _
  · rw [key i hi]
    exact (h.own i hi).1 u hu
  · rw [key i hi, Q12.sh_at hj2]
    split
    · rw [jn]
      have h1 := (h.own i hi).2 j hj
      have h2 := (h.own i hi).2 k hk
      omega
    · exact (h.own i hi).2 l hl2
section
variable {Cl : Addr} {M0 : Mem} {n : Nat} {q : Q12}
theorem mem12_lkAt (hd : q.dc.length = n) : (mem12 Cl M0 n q)[M0.length + 1 + n]? = some (.lst (q.lk.map seenD)) := memS_tail hd 0
theorem mem12_at (hd : q.dc.length = n) {k : Nat} (hk : k < n) (s : Shelf) : (mem12 Cl M0 n q).set (M0.length + 1 + k) (.dK (dcD (putS (q.dc.getD k []) "k" s))) = mem12 Cl M0 n (q.at k s) := memS_set hd hk _
theorem mem12_lk (hd : q.dc.length = n) (u : Shelf) : (mem12 Cl M0 n q).set (M0.length + 1 + n) (.lst (q.lk.map seenD ++ [seenD u])) = mem12 Cl M0 n { q with lk := q.lk ++ [u] } := by
  refine (memS_tset hd 0 _).trans ?_
  unfold mem12 T12
  rw [List.map_append]; rfl
end
/-! ### what the defs do -/
def sTold12 (Cl : Addr) : Spc := fun ds M r => ∃ (i k x n : Nat) (is : List Nat) (dc : List Dct) (d : Dct), At Cl M i k x n is dc d ∧ GoodS n (getS n d "k") ∧ OneD "k" d ∧ ds = [.res i, dInt (k : Nat)] ∧ r = .ok (seenD (getS n d "k")) M
def sPut12 (Cl : Addr) : Spc := fun ds M r => ∃ (i k x n : Nat) (is : List Nat) (dc : List Dct) (d : Dct) (v : Int) (u : Shelf) (fresh : Bool), At Cl M i k x n is dc d ∧ GoodS n (getS n d "k") ∧ (getS n d "k").2.length < 60 ∧ (∀ y ∈ u.1, 0 ≤ y) ∧ u.1.length = n ∧ OneD "k" d ∧ 1 ≤ n ∧ n ≤ 9 ∧ PutOk n (getS n d "k") u k v fresh ∧
  ds = [.res i, dInt (k : Nat), dInt v, seenD u, .v (.bl fresh)] ∧ r = .ok (.v (.bl true)) (M.set x (.dK (dcD (putS d "k" (putShelf (getS n d "k") u.1 k v)))))
end KS
namespace KS
open PySem PySem.Spec PyProof.Rows L2 DL
theorem rc_sortS1R {C : DL.Ctx} {M : Mem} {d : D} {xs : List Str} (hv : LV M d (xs.map fun x => .v (.str x))) (hl : xs.length ≤ 1) : RC C (rSortedS C.K) M [d] (.res M.length) (M ++ [.lst (xs.map fun x => .v (.str x))]) := fun w H vs hs r Q q => by
  obtain ⟨y, rfl, r1⟩ := reps_one r
  obtain ⟨p, us, rfl, st, rs⟩ := hs.lv hv r1
  have e : (xs.map fun x => D.v (.str x)) = (xs.map V.str).map D.v := by rw [List.map_map]; rfl
  rw [e, reps_vs] at rs
  subst rs
  refine ⟨p, xs, rfl, st, by omega, fun ys l hp _ hl2 => ?_⟩
  have hy : ys = xs := perm_one hp hl
  subst hy
  obtain ⟨g, s4, r4⟩ := hs.put_res (mo := .lst (ys.map fun x => D.v (.str x))) (o := .lst (ys.map V.str)) ⟨ys.map V.str, rfl, by rw [e, reps_vs]⟩ hl2
  exact q _ _ _ g s4 r4
theorem ed_sortS1R {C : DL.Ctx} {S : DS} {M M1 : Mem} {e : Expr} {d : D} {xs : List Str} {p2 pos : Pos} (h : ED C S M e d M1) (hv : LV M1 d (xs.map fun x => .v (.str x))) (hl : xs.length ≤ 1) (hm : C.mg "sorted" = none) (hg : ∀ p, (C.env p).kindOf "sorted" = some .globalImplicit := by intro _; rfl)
    (he : ∀ p, starEach [e] (C.env p) = (false, eval e (C.env p)) :: starEach [] (C.env p) := by intro _; rfl) : ED C S M (.Call (.Name "sorted" p2) [e] [] pos) (.res M1.length) (M1 ++ [.lst (xs.map fun x => .v (.str x))]) :=
  ed_callB (r := rSortedS C.K) (fun X hX => by
    have z := cr_sortedS (X := X)
    cases hX with | mk p => exact z) (ad_cons h ad_nil he) (rc_sortS1R hv hl) hm boot_sorted hg (by decide) (by decide) he
def sKeys1R (Cl : Addr) : Spc := fun ds M r => ∃ (i k x n : Nat) (is : List Nat) (dc : List Dct) (d : Dct), At Cl M i k x n is dc d ∧ d.length ≤ 1000 ∧ (d.filter fun p => !p.2.2.isEmpty).length ≤ 1 ∧ ds = [.res i, dInt (k : Nat)] ∧
  r = .ok (.res M.length) (M ++ [.lst ((d.filter fun p => !p.2.2.isEmpty).map fun p => .v (.str p.1))])
theorem At.put {Cl : Addr} {M : Mem} {i k x n : Nat} {is : List Nat} {dc : List Dct} {d : Dct} (h : At Cl M i k x n is dc d) (d' : Dct) : At Cl (M.set x (.dK (dcD d'))) i k x n is (dc.set k d') d' := by
  have hk : k < dc.length := by rw [h.hn]; exact h.lt
  exact ⟨h.st.put h.hx, h.hx, by rw [List.getElem?_set_self hk], by rw [List.length_set]; exact h.hn⟩
theorem valsI_len (L : List (List Int)) : (valsI L).length = L.length := by unfold valsI; rw [List.length_map]
theorem putShelf_len (s : Shelf) (m : List Int) (k : Nat) (v : Int) : (putShelf s m k v).2.length ≤ s.2.length + 1 := by
  show (sortI _).length ≤ _
  rw [(sortI_perm _).length_eq, List.length_append, List.length_singleton]
  have := List.length_filter_le (unseenB m) s.2
  omega
end KS
set_option maxHeartbeats 400000
namespace DL
open PySem PySem.Spec PyProof.Rows L2
/-- range(i, j) -/
def rngFrom (lo : Int) (n : Nat) : List D := (List.range n).map fun (i : Nat) => dInt (lo + (i : Int))
theorem rngFrom_get {lo : Int} {n i : Nat} {d : D} (h : (rngFrom lo n)[i]? = some d) : i < n ∧ d = dInt (lo + (i : Int)) := by
  unfold rngFrom at h
  rw [List.getElem?_map] at h
  by_cases hi : i < n
  · rw [List.getElem?_range hi] at h
    exact ⟨hi, by simpa using h.symm⟩
  · rw [List.getElem?_eq_none (by simpa using hi)] at h
    cases h
theorem id_range2 {C : Ctx} {S : DS} {M M' : Mem} {tg a b : Expr} {p2 pos : Pos} {i j : Int} (h : AD C S M [a, b] [dInt i, dInt j] M') (h1 : -(2 ^ 62) ≤ i ∧ i < 2 ^ 62 ∧ -(2 ^ 62) ≤ j ∧ j < 2 ^ 62) (hm : C.mg "range" = none) (hg : ∀ p, (C.env p).kindOf "range" = some .globalImplicit := by intro _; rfl)
    (hs : ∀ p, starEach [a, b] (C.env p) = [(false, eval a (C.env p)), (false, eval b (C.env p))] := by intro _; rfl) (hs2 : ∀ p, starEach [b] (C.env p) = [(false, eval b (C.env p))] := by intro _; rfl) :
    ID C S M tg (.Call (.Name "range" p2) [a, b] [] pos) (rngFrom i (j - i).toNat) PAny M' := fun w σ H hsat hp R q => ⟨iRng2 (wA C [a, b]), fun X hX => by
  cases hX with | mk p s0 H0 outer stack ex pn xe hpn => exact pi_range2 (hg p) hm (pa_w (.mk p s0 H0 outer stack ex pn xe hpn)) (hs p) (hs2 p), h w σ H hsat hp _ fun w1 H1 ys l s r => by
    rw [show [dInt i, dInt j] = [V.int i, V.int j].map D.v from rfl, reps_vs] at r
    refine ⟨i, j, r, h1, q w1 H1 _ l s fun k w2 H2 M2 l2 s2 _ => ⟨fun hi => by
      have e : (rngFrom i (j - i).toNat).length = (j - i).toNat := by simp [rngFrom]
      rw [e] at hi
      exact hi, fun d hd => ?_⟩⟩
    obtain ⟨hi, rfl⟩ := rngFrom_get hd
    refine ⟨hi, fun y H3 hy => ?_⟩
    obtain ⟨rfl, rfl⟩ := hy
    exact ⟨w2, .refl w2, s2, rep_v'⟩⟩
end DL
namespace KS
open PySem PySem.Spec PyProof.Rows L2 DL
/-! ### a shelf that is where such shelves meet -/
structure Cov (s : Shelf) (Pp : Shelf → Prop) : Prop where
  le : ∀ u, Pp u → ∀ k : Nat, u.1.getD k 0 ≤ s.1.getD k 0
  at_ : ∀ k : Nat, ∃ u, Pp u ∧ s.1.getD k 0 = u.1.getD k 0
  mem : ∀ x, x ∈ s.2 ↔ (∃ u, Pp u ∧ x ∈ u.2) ∧ ∀ u, Pp u → unseenB u.1 x = true ∨ x ∈ u.2
theorem Cov.self (s : Shelf) : Cov s (fun u => u = s) := ⟨fun u e k => by rw [e]; exact Int.le_refl _, fun k => ⟨s, rfl, rfl⟩, fun x => ⟨fun h => ⟨⟨s, rfl, h⟩, fun u e => .inr (by rw [e]; exact h)⟩, fun ⟨⟨u, e, h⟩, _⟩ => by rw [e] at h; exact h⟩⟩
theorem Cov.congr {s : Shelf} {Pp Pq : Shelf → Prop} (h : Cov s Pp) (e : ∀ u, Pq u ↔ Pp u) : Cov s Pq := by
  have : Pq = Pp := funext fun u => propext (e u)
  rw [this]; exact h
theorem uns_of {m : List Int} {x : List Int} : unseenB m x = true ↔ ∃ k n r, x = k :: n :: r ∧ m.getD k.toNat 0 < n := by
  match x with
  | [] => simp [unseenB]
  | [_] => simp [unseenB]
  | k :: n :: r =>
    simp only [unseenB, Bool.not_eq_true', decide_eq_false_iff_not, Int.not_le]
    constructor
    · exact fun h => ⟨k, n, r, rfl, h⟩
    · rintro ⟨_, _, _, e, h⟩
      cases e
      exact h
theorem Cov.uns {s : Shelf} {Pp : Shelf → Prop} (h : Cov s Pp) {x : List Int} : unseenB s.1 x = true ↔ ∀ u, Pp u → unseenB u.1 x = true := by
  constructor
  · intro hx u hu
    obtain ⟨k, n, r, rfl, hk⟩ := uns_of.mp hx
    have := h.le u hu k.toNat
    exact uns_of.mpr ⟨k, n, r, rfl, by omega⟩
  · intro hx
    obtain ⟨u0, hu0, _⟩ := h.at_ 0
    obtain ⟨k, n, r, rfl, _⟩ := uns_of.mp (hx u0 hu0)
    obtain ⟨u, hu, e⟩ := h.at_ k.toNat
    obtain ⟨k', n', r', e', h'⟩ := uns_of.mp (hx u hu)
    cases e'
    exact uns_of.mpr ⟨k, n, r, rfl, by omega⟩
theorem Cov.met {n : Nat} {G : List (List Int)} {s l : Shelf} {Pp : Shelf → Prop} (h : Cov s Pp) (gs : GS n G s) (gl : GS n G l) : Cov (metShelf s l.1 l.2) (fun u => Pp u ∨ u = l) := by
  have hl : s.1.length = l.1.length := by rw [gs.len, gl.len]
  have jn : ∀ k : Nat, (metShelf s l.1 l.2).1.getD k 0 = max (s.1.getD k 0) (l.1.getD k 0) := fun k => joinI_getD hl k
  refine ⟨fun u hu k => ?_, fun k => ?_, fun x => ?_⟩
  · rw [jn]
    rcases hu with hu | rfl
    · have := h.le u hu k
      omega
    · omega
  · rw [jn]
    by_cases e : s.1.getD k 0 ≤ l.1.getD k 0
    · exact ⟨l, .inr rfl, by omega⟩
    · obtain ⟨u, hu, e2⟩ := h.at_ k
      exact ⟨u, .inl hu, by omega⟩
  · rw [mem_met]
    constructor
    · rintro (⟨h1, h2⟩ | ⟨h1, h2⟩ | ⟨h1, h2⟩)
      · obtain ⟨⟨u, hu, hx⟩, ha⟩ := (h.mem x).mp h1
        refine ⟨⟨u, .inl hu, hx⟩, ?_⟩
        rintro v (hv | rfl)
        · exact ha v hv
        · exact .inr h2
      · obtain ⟨⟨u, hu, hx⟩, ha⟩ := (h.mem x).mp h1
        refine ⟨⟨u, .inl hu, hx⟩, ?_⟩
        rintro v (hv | rfl)
        · exact ha v hv
        · exact .inl h2
      · refine ⟨⟨l, .inr rfl, h1⟩, ?_⟩
        rintro v (hv | rfl)
        · exact .inl (h.uns.mp h2 v hv)
        · exact .inr h1
    · rintro ⟨⟨u, hu, hx⟩, ha⟩
      by_cases e : ∃ u, Pp u ∧ x ∈ u.2
      · have hs : x ∈ s.2 := (h.mem x).mpr ⟨e, fun v hv => ha v (.inl hv)⟩
        rcases ha l (.inr rfl) with h1 | h1
        · exact .inr (.inl ⟨hs, h1⟩)
        · exact .inl ⟨hs, h1⟩
      · have hl2 : x ∈ l.2 := by
          rcases hu with hu | rfl
          · exact absurd ⟨u, hu, hx⟩ e
          · exact hx
        refine .inr (.inr ⟨hl2, h.uns.mpr fun v hv => ?_⟩)
        rcases ha v (.inl hv) with h1 | h1
        · exact h1
        · exact absurd ⟨v, hv, h1⟩ e
theorem Cov.eq {n : Nat} {G : List (List Int)} {s t : Shelf} {Pp : Shelf → Prop} (h : Cov s Pp) (h' : Cov t Pp) (gs : GS n G s) (gt : GS n G t) : s = t := by
  refine Prod.ext (ext_getD (by rw [gs.len, gt.len]) fun k => ?_) ?_
  · obtain ⟨u, hu, e⟩ := h.at_ k
    obtain ⟨v, hv, e'⟩ := h'.at_ k
    have h1 := h'.le u hu k
    have h2 := h.le v hv k
    omega
  · rw [← sortI_of_asc gs.asc, ← sortI_of_asc gt.asc]
    exact sortI_ext gs.nd gt.nd fun x => by rw [h.mem, h'.mem]
/-! ### law 09: what is kept -/
structure Q9 where
  dc : List Dct
  lk : List (List Int)
def Q9.sh (n : Nat) (q : Q9) (k : Nat) : Shelf := getS n (q.dc.getD k []) "key"
def mem9 (Cl : Addr) (M0 : Mem) (n : Nat) (q : Q9) : Mem := memS Cl M0 n q.dc [.lst (q.lk.map tupI)]
def Q9.at (q : Q9) (k : Nat) (s : Shelf) : Q9 := { q with dc := q.dc.set k (putS (q.dc.getD k []) "key" s) }
structure Ok9 (n t : Nat) (G : List (List Int)) (q : Q9) : Prop where
  dl : q.dc.length = n
  gs : ∀ k, k < n → GS n G (q.sh n k)
  od : ∀ d ∈ q.dc, OneD "key" d
  lk : ∀ m ∈ q.lk, m.length = n ∧ ∀ x ∈ m, 0 ≤ x
  ne : q.lk ≠ []
  lkl : q.lk.length ≤ 1 + t
  gl : G.length ≤ t
  val : ∀ r ∈ G, r.getD 2 0 < 1000 * (t : Int)
  dv : ∀ r ∈ G, ∀ r' ∈ G, r.getD 2 0 = r'.getD 2 0 → r = r'
theorem Q9.sh_at {n : Nat} {q : Q9} {k : Nat} (hk : k < q.dc.length) (s : Shelf) (j : Nat) : (q.at k s).sh n j = if j = k then s else q.sh n j := by
  unfold Q9.sh Q9.at
  rw [getD_set hk]
  by_cases e : j = k
  · rw [if_pos e, if_pos e, getS_put, if_pos rfl]
  · rw [if_neg e, if_neg e]
theorem Ok9.one {n t : Nat} {G : List (List Int)} {q : Q9} (h : Ok9 n t G q) {k : Nat} (hk : k < n) : OneD "key" (q.dc.getD k []) := h.od _ (mem_getD (by rw [h.dl]; exact hk))
theorem Ok9.mono {n t : Nat} {G : List (List Int)} {q : Q9} (h : Ok9 n t G q) : Ok9 n (t + 1) G q :=
  ⟨h.dl, h.gs, h.od, h.lk, h.ne, Nat.le_trans h.lkl (by omega), Nat.le_trans h.gl (by omega), fun r hr => by
    have := h.val r hr
    omega, h.dv⟩
/-- a shelf changes -/
theorem Ok9.at {n t : Nat} {G : List (List Int)} {q : Q9} (h : Ok9 n t G q) {k : Nat} (hk : k < n) {s : Shelf} (hs : GS n G s) : Ok9 n t G (q.at k s) := by
  have hk2 : k < q.dc.length := by rw [h.dl]; exact hk
  refine ⟨by unfold Q9.at; rw [List.length_set]; exact h.dl, fun j hj => ?_, fun d hd => ?_, h.lk, h.ne, h.lkl, h.gl, h.val, h.dv⟩
  · rw [Q9.sh_at hk2]
    split
    · exact hs
    · exact h.gs j hj
  · rcases List.mem_or_eq_of_mem_set hd with hd | rfl
    · exact h.od d hd
    · exact (h.one hk).put' _
theorem Ok9.grow {n t : Nat} {G : List (List Int)} {q : Q9} (h : Ok9 n t G q) (k : Int) (m : Int) {v : Int} (hv1 : 1000 * (t : Int) ≤ v) (hv2 : v < 1000 * ((t + 1 : Nat) : Int)) : Ok9 n (t + 1) (G ++ [[k, m, v]]) q := by
  refine ⟨h.dl, fun j hj => (h.gs j hj).mono fun x hx => List.mem_append_left _ hx, h.od, h.lk, h.ne, Nat.le_trans h.lkl (by omega), ?_, fun r hr => ?_, fun r hr r' hr' e => ?_⟩
  · rw [List.length_append, List.length_singleton]
    have := h.gl
    omega
  · rcases List.mem_append.mp hr with hr | hr
    · have := h.val r hr
      omega
    · have : r = [k, m, v] := by simpa using hr
      subst this
      exact hv2
  · rcases List.mem_append.mp hr with hr | hr <;> rcases List.mem_append.mp hr' with hr' | hr'
    · exact h.dv r hr r' hr' e
    · have : r' = [k, m, v] := by simpa using hr'
      subst this
      have h1 := h.val r hr
      have h2 : r.getD 2 0 = v := e
      omega
    · have : r = [k, m, v] := by simpa using hr
      subst this
      have h1 := h.val r' hr'
      have h2 : v = r'.getD 2 0 := e
      omega
    · have h1 : r = [k, m, v] := by simpa using hr
      have h2 : r' = [k, m, v] := by simpa using hr'
      rw [h1, h2]
def pick9 (n : Nat) (c t : Int) : Int := c / 9 / (n : Int) + 5 * t
def look9 (n : Nat) (q : Q9) (c t : Int) : List Int := q.lk.getD (pick9 n c t % ((q.lk.length : Nat) : Int)).toNat []
def to9 (n : Nat) (c t : Int) : Nat := (((kp10 n c : Nat) + 1 + pick9 n c t % ((n : Int) - 1)) % (n : Int)).toNat
def deed9 (n : Nat) (q : Q9) (c t : Int) : Q9 :=
  if srt10 c t < 4 then q.at (kp10 n c) (putShelf (q.sh n (kp10 n c)) (look9 n q c t) (kp10 n c) (1000 * t + c % 1000))
  else if srt10 c t = 4 then q.at (kp10 n c) (dropShelf (q.sh n (kp10 n c)) (look9 n q c t))
  else if srt10 c t < 7 then { q with lk := q.lk ++ [(q.sh n (kp10 n c)).1] }
  else q.at (to9 n c t) (metShelf (q.sh n (to9 n c t)) (q.sh n (kp10 n c)).1 (q.sh n (kp10 n c)).2)
theorem to9_lt {n : Nat} (h : 1 ≤ n) (c t : Int) : to9 n c t < n ∧ ((to9 n c t : Nat) : Int) = ((kp10 n c : Nat) + 1 + pick9 n c t % ((n : Int) - 1)) % (n : Int) := by
  have a := Int.emod_nonneg ((kp10 n c : Nat) + 1 + pick9 n c t % ((n : Int) - 1)) (b := (n : Int)) (by omega)
  have b := Int.emod_lt_of_pos ((kp10 n c : Nat) + 1 + pick9 n c t % ((n : Int) - 1)) (b := (n : Int)) (by omega)
  unfold to9
  omega
theorem look9_mem {n : Nat} {q : Q9} {c t : Int} (h : q.lk ≠ []) : look9 n q c t ∈ q.lk := by
  have hl : 0 < q.lk.length := List.length_pos_iff.mpr h
  have a := Int.emod_nonneg (pick9 n c t) (b := ((q.lk.length : Nat) : Int)) (by omega)
  have b := Int.emod_lt_of_pos (pick9 n c t) (b := ((q.lk.length : Nat) : Int)) (by omega)
  exact mem_getD (by omega)
theorem deed9_ok {n t : Nat} {G : List (List Int)} {q : Q9} (h : Ok9 n t G q) (hn : 1 ≤ n) (c : Int) : ∃ G', Ok9 n (t + 1) G' (deed9 n q c (t : Nat)) := by
  obtain ⟨hk, _⟩ := kp10_lt hn c
  obtain ⟨hj, _⟩ := to9_lt hn c (t : Nat)
  have hs := h.gs _ hk
  obtain ⟨hl1, hl2⟩ := h.lk _ (look9_mem (n := n) (c := c) (t := (t : Nat)) h.ne)
  have m := h.mono
  unfold deed9
  split
  · exact ⟨_, (h.grow (kp10 n c : Nat) ((q.sh n (kp10 n c)).1.getD (kp10 n c) 0 + 1) (by omega) (by omega)).at hk (hs.put hl1 hk)⟩
  split
  · exact ⟨G, m.at hk (hs.drop hl1)⟩
  split
  · refine ⟨G, m.dl, m.gs, m.od, fun x hx => ?_, by simp, ?_, m.gl, m.val, m.dv⟩
    · rcases List.mem_append.mp hx with hx | hx
      · exact h.lk x hx
      · have : x = (q.sh n (kp10 n c)).1 := by simpa using hx
        subst this
        exact ⟨hs.len, hs.mem⟩
    · rw [List.length_append, List.length_singleton]
      have := h.lkl
      omega
  · exact ⟨G, m.at hj ((h.gs _ hj).met hs)⟩
section
variable {Cl : Addr} {M0 : Mem} {n : Nat} {q : Q9}
theorem mem9_lkAt (hd : q.dc.length = n) : (mem9 Cl M0 n q)[M0.length + 1 + n]? = some (.lst (q.lk.map tupI)) := memS_tail hd 0
theorem mem9_at (hd : q.dc.length = n) {k : Nat} (hk : k < n) (s : Shelf) : (mem9 Cl M0 n q).set (M0.length + 1 + k) (.dK (dcD (putS (q.dc.getD k []) "key" s))) = mem9 Cl M0 n (q.at k s) := memS_set hd hk _
theorem mem9_lk (hd : q.dc.length = n) (m : List Int) : (mem9 Cl M0 n q).set (M0.length + 1 + n) (.lst (q.lk.map tupI ++ [tupI m])) = mem9 Cl M0 n { q with lk := q.lk ++ [m] } := by
  refine (memS_tset hd 0 _).trans ?_
  unfold mem9
  rw [List.map_append]; rfl
end
def sDeed9 (Cl : Addr) : Spc := fun ds M r => ∃ (M0 : Mem) (n t : Nat) (G : List (List Int)) (q : Q9) (c : Int), M = mem9 Cl M0 n q ∧ Ok9 n t G q ∧ 2 ≤ n ∧ n ≤ 9 ∧ t ≤ 50 ∧
  ds = [.res M0.length, .res (M0.length + 1 + n), dInt c, dInt (t : Nat), dInt (n : Nat)] ∧ r = .ok (.v .non) (mem9 Cl M0 n (deed9 n q c (t : Nat)))
def sVals9 (Cl : Addr) : Spc := fun ds M r => ∃ (i k x n : Nat) (is : List Nat) (dc : List Dct) (d : Dct), At Cl M i k x n is dc d ∧ GoodS n (getS n d "key") ∧ ds = [.res i, dInt (k : Nat)] ∧ r = .ok (.lst (intsD (valsI (getS n d "key").2))) M
/-! ### the order in which the letters are taken -/
def step9 (n k i : Nat) : Int := if k % 2 = 1 then (n : Int) - i else i
def idx9 (n : Nat) (b : Int) (k i : Nat) : Nat := ((b + (k : Nat) + step9 n k i) % (n : Int)).toNat
theorem idx9_lt {n : Nat} (h : 1 ≤ n) (b : Int) (k i : Nat) : idx9 n b k i < n ∧ ((idx9 n b k i : Nat) : Int) = (b + (k : Nat) + step9 n k i) % (n : Int) := by
  have a := Int.emod_nonneg (b + (k : Nat) + step9 n k i) (b := (n : Int)) (by omega)
  have b := Int.emod_lt_of_pos (b + (k : Nat) + step9 n k i) (b := (n : Int)) (by omega)
  unfold idx9
  omega
theorem idx9_all {n : Nat} (h : 1 ≤ n) (b : Int) (k : Nat) {j : Nat} (hj : j < n) : ∃ i, i < n ∧ idx9 n b k i = j := by
  have hn : (0 : Int) < n := by omega
  by_cases e : k % 2 = 1
  · refine ⟨((b + (k : Nat) - j) % (n : Int)).toNat, ?_, ?_⟩
    · have a := Int.emod_nonneg (b + (k : Nat) - j) (b := (n : Int)) (by omega)
      have b := Int.emod_lt_of_pos (b + (k : Nat) - j) hn
      omega
    · have a := Int.emod_nonneg (b + (k : Nat) - j) (b := (n : Int)) (by omega)
      have e1 : (((b + (k : Nat) - j) % (n : Int)).toNat : Int) = (b + (k : Nat) - j) % (n : Int) := Int.toNat_of_nonneg a
      unfold idx9 step9
      rw [if_pos e, e1]
      have e2 : (b + (k : Nat) + ((n : Int) - (b + (k : Nat) - j) % (n : Int))) % (n : Int) = (j : Int) := by
        have h3 := Int.mul_ediv_add_emod (b + (k : Nat) - j) n
        generalize (b + (k : Nat) - j) / (n : Int) = y at h3
        generalize (b + (k : Nat) - j) % (n : Int) = x at h3
        have h4 : b + (k : Nat) + ((n : Int) - x) = j + n * (y + 1) := by
          rw [Int.mul_add]; omega
        rw [h4, Int.add_mul_emod_self_left]
        exact Int.emod_eq_of_lt (by omega) (by omega)
      rw [e2]; omega
  · refine ⟨((j - b - (k : Nat)) % (n : Int)).toNat, ?_, ?_⟩
    · have a := Int.emod_nonneg (j - b - (k : Nat)) (b := (n : Int)) (by omega)
      have b := Int.emod_lt_of_pos (j - b - (k : Nat)) hn
      omega
    · have a := Int.emod_nonneg (j - b - (k : Nat)) (b := (n : Int)) (by omega)
      have e1 : (((j - b - (k : Nat)) % (n : Int)).toNat : Int) = (j - b - (k : Nat)) % (n : Int) := Int.toNat_of_nonneg a
      unfold idx9 step9
      rw [if_neg e, e1]
      have e2 : (b + (k : Nat) + (j - b - (k : Nat)) % (n : Int)) % (n : Int) = (j : Int) := by
        have h3 := Int.mul_ediv_add_emod (j - b - (k : Nat)) n
        generalize (j - b - (k : Nat)) / (n : Int) = y at h3
        generalize (j - b - (k : Nat)) % (n : Int) = x at h3
        have h4 : b + (k : Nat) + x = j + n * (- y) := by
          rw [Int.mul_neg]; omega
        rw [h4, Int.add_mul_emod_self_left]
        exact Int.emod_eq_of_lt (by omega) (by omega)
      rw [e2]; omega
end KS
namespace KS
open PySem PySem.Spec PyProof.Rows L2 DL
abbrev blsD {α : Type} (f : α → Bool) (l : List α) : List D := l.map fun a => .v (.bl (f a))
theorem bls_ok {α : Type} (f : α → Bool) (l : List α) : CmpOk (.lst (blsD f l)) := by
  have k1 : flatDs (blsD f l) = true := flatDs_of fun x hx => by
    obtain ⟨a, _, rfl⟩ := List.mem_map.mp hx
    rfl
  have k2 : PyData.canLayAll0 (pyds (blsD f l)) = true := canAll_of fun x hx => by
    rw [pyds_map, List.map_map] at hx
    obtain ⟨a, _, rfl⟩ := List.mem_map.mp hx
    rfl
  have k3 : PyData.depthAll (pyds (blsD f l)) ≤ 0 := depthAll_of fun x hx => by
    rw [pyds_map, List.map_map] at hx
    obtain ⟨a, _, rfl⟩ := List.mem_map.mp hx
    exact Nat.le_refl _
  refine ⟨by rw [flatD]; exact k1, ?_⟩
  unfold SeqAt.shaped
  rw [pyd, PyData.canLay0, k2, PyData.depth]
  simp; omega
theorem bls_any {α : Type} (f : α → Bool) (b : Bool) (l : List α) : ((pyds (blsD f l)).any fun z => PyData.eqv z (pyd (.v (.bl b)))) = l.any fun a => f a == b := by
  rw [pyds_map, List.map_map, List.any_map]
  rfl
theorem none_lists {α : Type} (f : α → List D) (l : List α) : ((pyds (l.map fun a => D.lst (f a))).any fun z => PyData.eqv z (pyd (.v .non))) = false := by
  rw [pyds_map, List.map_map, List.any_map, List.any_eq_false]
  intro a _
  simp [pyd, PyData.eqv]
theorem range_at {n j : Nat} (f : Nat → D) (hj : j < n) : atI ((List.range n).map f) ((j : Nat) : Int) = some (f j) := atI_nat (by rw [List.getElem?_map, List.getElem?_range hj]; rfl)
end KS
set_option maxHeartbeats 400000
namespace L2
open PySem PySem.Spec PyProof.Rows
/-- a text a whole number of times -/
def rRepS : R2 := fun x y H Q => ∃ (z : Str) (n : Nat), x = .str z ∧ y = .int (n : Int) ∧ z.length * n ≤ 100000 ∧ n ≤ 100000 ∧ Q (.str ⟨(List.replicate n z.cps.toList).flatten.toArray⟩) H
theorem rep_fold (a : Array Nat) : ∀ (n : Nat) (b : Array Nat), (List.replicate n a).foldl (· ++ ·) b = b ++ ((List.replicate n a.toList).flatten.toArray)
  | 0, b => by simp
  | n + 1, b => by
    rw [List.replicate_succ, List.foldl_cons, rep_fold a n (b ++ a), List.replicate_succ, List.flatten_cons, Array.append_assoc]
    congr 1
    apply Array.ext'
    simp
theorem op_repS {X : Cx} : OpR X (binaryOp .Mult) rRepS := by
  rintro pins s σ H x y v u Q I rx ry ⟨z, n, rfl, rfl, hz, hn, hq⟩
  obtain ⟨t, rfl⟩ := rx
  obtain ⟨tk, rfl⟩ := ry
  have hlong : ∀ k, k ≤ 100000 → Builtin.Str.tooLong k = false := fun k hk => by
    show decide (k > sizeLine) = false
    exact decide_eq_false (Nat.not_lt.2 (Nat.le_trans hk (by decide)))
  refine P.mul_str (by rw [decide_eq_false (by omega), decide_eq_false (by omega)]; rfl) (fun h1 h2 => ?_) (fun h1 h2 => hlong _ (by rw [Int.toNat_natCast]; exact hz)) ?_
  · have hn1 : 1 ≤ n := by omega
    have h63 : (100000 : Int) * 100000 < 2 ^ 63 - 1 := by decide
    intro hgt
    have hle : (2 ^ 63 - 1 : Int) / (n : Int) * (n : Int) ≤ 2 ^ 63 - 1 := Int.ediv_mul_le _ (by omega)
    have hlt : (2 ^ 63 - 1 : Int) < ((2 ^ 63 - 1 : Int) / (n : Int) + 1) * (n : Int) := Int.lt_ediv_add_one_mul_self _ (by omega)
    have hzz : (z.length : Int) * (n : Int) ≤ 100000 := by
      have hz' : ((z.length * n : Nat) : Int) ≤ 100000 := by
        generalize z.length * n = k at hz
        omega
      rw [Int.natCast_mul] at hz'; exact hz'
    have h3 : ((2 ^ 63 - 1 : Int) / (n : Int) + 1) * (n : Int) ≤ (z.length : Int) * (n : Int) := Int.mul_le_mul_of_nonneg_right (by omega) (by omega)
    omega
  · by_cases h1 : (n : Int) < 1
    · rw [if_pos h1]
      have : n = 0 := by omega
      subst this
      exact ⟨by decide, ⟨.str _, H, I.tok _, ⟨_, rfl⟩, hq⟩⟩
    · rw [if_neg h1]
      by_cases h2 : ((n : Int) == 1 || z.length == 0) = true
      · rw [if_pos h2]
        have e : (⟨(List.replicate n z.cps.toList).flatten.toArray⟩ : Str) = z := by
          rw [Bool.or_eq_true] at h2
          rcases h2 with h2 | h2
          · have : n = 1 := by have : (n : Int) = 1 := by simpa using h2
                               omega
            subst this
            simp
          · have : z.cps.toList = [] := by
              have : z.cps.size = 0 := by simpa [Str.length] using h2
              simpa using this
            have hz0 : z = ⟨#[]⟩ := by
              cases z with | mk cps => simp at this; subst this; rfl
            subst hz0
            have : ∀ k, (List.replicate k ([] : List Nat)).flatten = [] := fun k => by
              induction k with
              | zero => rfl
              | succ k ih => rw [List.replicate_succ, List.flatten_cons, ih]; rfl
            rw [this]
        rw [e] at hq
        exact ⟨.str _, H, I, ⟨_, rfl⟩, hq⟩
      · rw [if_neg h2]
        have e := rep_fold z.cps n #[]
        have hsz : ((List.replicate n z.cps).foldl (· ++ ·) #[]) = (List.replicate n z.cps.toList).flatten.toArray := by rw [e]; simp
        rw [Int.toNat_natCast, hsz]
        refine ⟨Nat.le_trans ?_ (by decide : (100000 : Nat) ≤ sizeLine), ⟨.str _, H, I.tok _, ⟨_, rfl⟩, hq⟩⟩
        show ((List.replicate n z.cps.toList).flatten.toArray).size ≤ 100000
        rw [List.size_toArray, List.length_flatten, List.map_replicate, List.sum_replicate_nat]
        have : z.cps.toList.length = z.length := by simp [Str.length]
        rw [this, Nat.mul_comm]
        exact hz
/-- sorted of texts, any number of them -/
def rSortedSA (K : PySem.W.Frag) : List V → Hp → VK → Prop := fun vs H Q => ∃ (a : Addr) (xs : List Str), vs = [V.ref a] ∧ SqL K H a (xs.map V.str) ∧ xs.length ≤ 100000 ∧ ∀ (ys : List Str) (p : Addr), ys.Perm xs → sortedS ys = true → H p = none → Q (.ref p) (upd H p (.lst (ys.map V.str)))
theorem cr_sortedSA {X : Cx} : CallR X (.builtin "sorted") (rSortedSA X.K) := by
  rintro pins s σ H vs us Q I r ⟨a, xs, rfl, hs, hn, hq⟩
  obtain ⟨its, rv, hl, _⟩ := I.list hs
  rw [Vals.ref1 r]
  have hlen := rv.length
  rw [List.length_map] at hlen
  refine PyProof.Rows.sorted_strsAny hl.isList rv.strs (by rw [← hlen]; exact Nat.le_trans hn (by decide)) fun out ys h1 h2 h3 => ?_
  obtain ⟨ep, he⟩ := PyProof.Rows.sortedAll_at s.heap its out
  have hz : (ys.map V.str).length ≤ sizeLine := by rw [List.length_map, h2.length_eq]; exact Nat.le_trans hn (by decide)
  exact ⟨.ref _, upd H (s.heap.objs.size + 1) (.lst (ys.map V.str)), I.laid (t' := s.toks) (fun _ _ => PyProof.Rows.sortedAll_old) (Nat.le_succ _) ⟨hz, out.toList, ep, vals_of_strs h1, he⟩, rfl, hq ys _ h2 h3 (I.hok.fresh (Nat.le_succ _))⟩
end L2
namespace DL
open PySem PySem.Spec PyProof.Rows L2
/-- a text n times -/
def repT (z : Str) (n : Nat) : Str := ⟨(List.replicate n z.cps.toList).flatten.toArray⟩
/-! ### the order of texts -/
def leS (a b : Str) : Prop := a.cps.toList ≤ b.cps.toList
theorem leS_iff (a b : Str) : leS a b ↔ ltCps b.cps.toList a.cps.toList = false := by
  rw [ltCps_eq, decide_eq_false_iff_not]
  exact Iff.rfl
instance (a b : Str) : Decidable (leS a b) := by unfold leS; infer_instance
theorem leS_trans {a b c : Str} (h1 : leS a b) (h2 : leS b c) : leS a c := List.le_trans h1 h2
theorem leS_total (a b : Str) : leS a b ∨ leS b a := List.le_total _ _
theorem leS_anti {a b : Str} (h1 : leS a b) (h2 : leS b a) : a = b := Str.ext' (Array.toList_inj.mp (List.le_antisymm h1 h2))
theorem asc_of_rising : ∀ (p : Str) (l : List Str), risingS p l = true → (p :: l).Pairwise leS
  | p, [], _ => List.pairwise_singleton _ _
  | p, x :: r, h => by
    have h' : (!ltCps x.cps.toList p.cps.toList && risingS x r) = true := h
    rw [Bool.and_eq_true, Bool.not_eq_true'] at h'
    have ih := asc_of_rising x r h'.2
    have h1 : leS p x := (leS_iff _ _).mpr h'.1
    refine List.pairwise_cons.mpr ⟨fun y hy => ?_, ih⟩
    rcases List.mem_cons.mp hy with rfl | hy
    · exact h1
    · exact leS_trans h1 ((List.pairwise_cons.mp ih).1 y hy)
theorem asc_of_sorted : ∀ (l : List Str), sortedS l = true → l.Pairwise leS
  | [], _ => .nil
  | x :: r, h => asc_of_rising x r h
def sortS (L : List Str) : List Str := L.mergeSort fun a b => decide (leS a b)
theorem sortS_perm (L : List Str) : (sortS L).Perm L := List.mergeSort_perm _ _
theorem sortS_asc (L : List Str) : (sortS L).Pairwise leS := by
  have h := List.pairwise_mergeSort (le := fun a b : Str => decide (leS a b)) (fun a b c h1 h2 => decide_eq_true (leS_trans (of_decide_eq_true h1) (of_decide_eq_true h2))) (fun a b => by
    rcases leS_total a b with h | h <;> simp [h]) L
  exact h.imp fun h => of_decide_eq_true h
theorem sortS_eq {L M : List Str} (h : M.Pairwise leS) (p : M.Perm L) : M = sortS L := (p.trans (sortS_perm L).symm).eq_of_pairwise (le := leS) (fun a b _ _ h h' => leS_anti h h') h (sortS_asc L)
theorem sortS_congr {L M : List Str} (p : L.Perm M) : sortS L = sortS M := sortS_eq (sortS_asc L) ((sortS_perm L).trans p)
section
variable {C : Ctx} {S : DS} {M M1 M2 M3 M' : Mem} {a b e o v k : Expr} {d dd dv : D} {pos p2 cpos apos : Pos} {z : Str} {n : Nat} {key : Key} {kvs : List (Key × D)}
theorem ed_repS (h1 : ED C S M a (.v (.str z)) M1) (h2 : ED C S M1 b (dInt ((n : Nat) : Int)) M2) (hz : z.length * n ≤ 100000) (hn : n ≤ 100000) : ED C S M (.BinOp a .Mult b pos) (.v (.str (repT z n))) M2 :=
  ed_op (fun _ _ => op_repS) h1 h2 fun w H u v hs hx hy Q q => by
    rw [rep_v] at hx hy
    exact ⟨z, n, hx, hy, hz, hn, q w H _ (.refl w) hs rep_v'⟩
theorem ed_cutS {lo hi : Option Expr} {li ui : Option Int} {p3 : Pos} (h1 : ED C S M a (.v (.str z)) M1) (hl : OD C S M1 lo li M2) (hu : OD C S M2 hi ui M3) (hz : z.length ≤ 100000) : ED C S M (.Subscript a (.Slice lo hi none p3) pos) (.v (.str (cutS z li ui))) M3 :=
  ED.of (t := tSl rSlS (wE C a) (wO C lo) (wO C hi)) (fun X hX => pe_slice sl_str (pe_w hX) (po_w hX) (po_w hX)) fun w σ H hs hr Q q => h1 w σ H hs hr _ fun w1 H1 x l1 s1 r1 => hl.read s1 (hr.go l1) fun w2 H2 l2 s2 => hu.read s2 (hr.go (l1.trans l2)) fun w3 H3 l3 s3 => by
      rw [rep_v] at r1
      exact ⟨z, r1, sz hz, q w3 H3 _ ((l1.trans l2).trans l3) s3 rep_v'⟩
theorem ed_upper (h : ED C S M a (.v (.str z)) M1) (hz : z.length ≤ 100000) (hbase : ∀ p, attributeBase a "upper" (C.env p) (eval a (C.env p)) = eval a (C.env p) := by intro _; rfl) (hline : (apos.endLine == pos.line) = true := by rfl) : ED C S M (.Call (.Attribute a "upper" apos) [] [] pos) (.v (.str (Txt.upper z))) M1 :=
  ED.of (t := tM0 (fun x xs H Q => ∃ a, x = .str a ∧ xs = [] ∧ a.length ≤ 5592405 ∧ Q (.str (Txt.upper a)) H) (wE C a)) (fun X hX => by
    have z0 : attributeBase a "upper" X.env (eval a X.env) = eval a X.env → PE X (.Call (.Attribute a "upper" apos) [] [] pos) (tM0 (fun x xs H Q => ∃ a, x = .str a ∧ xs = [] ∧ a.length ≤ 5592405 ∧ Q (.str (Txt.upper a)) H) (wE C a)) := fun hb => pe_upper (pe_w hX) hb hline
    cases hX with | mk p => exact z0 (hbase p)) fun w σ H hs hr Q q => h w σ H hs hr _ fun w1 H1 x l1 s1 r1 => by
      rw [rep_v] at r1
      exact ⟨⟨z, r1⟩, z, r1, rfl, Nat.le_trans hz (by decide), q w1 H1 _ l1 s1 rep_v'⟩
theorem ed_lower (h : ED C S M a (.v (.str z)) M1) (hz : z.length ≤ 100000) (hbase : ∀ p, attributeBase a "lower" (C.env p) (eval a (C.env p)) = eval a (C.env p) := by intro _; rfl) (hline : (apos.endLine == pos.line) = true := by rfl) : ED C S M (.Call (.Attribute a "lower" apos) [] [] pos) (.v (.str (Txt.lower z))) M1 :=
  ED.of (t := tM0 (fun x xs H Q => ∃ a, x = .str a ∧ xs = [] ∧ a.length ≤ 5592405 ∧ Q (.str (Txt.lower a)) H) (wE C a)) (fun X hX => by
    have z0 : attributeBase a "lower" X.env (eval a X.env) = eval a X.env → PE X (.Call (.Attribute a "lower" apos) [] [] pos) (tM0 (fun x xs H Q => ∃ a, x = .str a ∧ xs = [] ∧ a.length ≤ 5592405 ∧ Q (.str (Txt.lower a)) H) (wE C a)) := fun hb => pe_lower (pe_w hX) hb hline
    cases hX with | mk p => exact z0 (hbase p)) fun w σ H hs hr Q q => h w σ H hs hr _ fun w1 H1 x l1 s1 r1 => by
      rw [rep_v] at r1
      exact ⟨⟨z, r1⟩, z, r1, rfl, Nat.le_trans hz (by decide), q w1 H1 _ l1 s1 rep_v'⟩
theorem ed_strI {i : Int} (h : ED C S M e (dInt i) M1) (hz : i.natAbs.log2 < 1920) (hm : C.mg "str" = none) (hg : ∀ p, (C.env p).kindOf "str" = some .globalImplicit := by intro _; rfl) (he : ∀ p, starEach [e] (C.env p) = (false, eval e (C.env p)) :: starEach [] (C.env p) := by intro _; rfl) :
    ED C S M (.Call (.Name "str" p2) [e] [] pos) (.v (.str (toString i : Str))) M1 := ed_callTy (fun _ _ => call_str_int) (ad_cons h ad_nil he) (fun w H xs hs r Q q => by
      obtain ⟨y, rfl, r1⟩ := reps_one r
      rw [rep_v] at r1
      exact ⟨i, by rw [r1], hz, q w H _ (.refl w) hs rep_v'⟩) hm boot_str hg (by decide) (by decide) he
theorem rc_sortSA {xs : List Str} (hv : LV M d (xs.map fun x => .v (.str x))) (hl : xs.length ≤ 100000) : RC C (rSortedSA C.K) M [d] (.lst ((sortS xs).map fun x => .v (.str x))) M := fun w H vs hs r Q q => by
  obtain ⟨y, rfl, r1⟩ := reps_one r
  obtain ⟨p, us, rfl, st, rs⟩ := hs.lv hv r1
  have e : ∀ ys : List Str, (ys.map fun x => D.v (.str x)) = (ys.map V.str).map D.v := fun ys => by rw [List.map_map]; rfl
  rw [e, reps_vs] at rs
  subst rs
  refine ⟨p, xs, rfl, st, hl, fun ys l hp hs2 hl2 => ?_⟩
  have hy : ys = sortS xs := sortS_eq (asc_of_sorted _ hs2) hp
  subst hy
  obtain ⟨g, s4, r4⟩ := hs.put_lst (ds := (sortS xs).map fun x => .v (.str x)) (ys := (sortS xs).map V.str) (by rw [e, reps_vs]) hl2
  exact q _ _ _ g s4 r4
theorem ed_sortSA {xs : List Str} (h : ED C S M e d M1) (hv : LV M1 d (xs.map fun x => .v (.str x))) (hl : xs.length ≤ 100000) (hm : C.mg "sorted" = none) (hg : ∀ p, (C.env p).kindOf "sorted" = some .globalImplicit := by intro _; rfl)
    (he : ∀ p, starEach [e] (C.env p) = (false, eval e (C.env p)) :: starEach [] (C.env p) := by intro _; rfl) : ED C S M (.Call (.Name "sorted" p2) [e] [] pos) (.lst ((sortS xs).map fun x => .v (.str x))) M1 :=
  ed_callB (r := rSortedSA C.K) (fun X hX => by
    have z := cr_sortedSA (X := X)
    cases hX with | mk p => exact z) (ad_cons h ad_nil he) (rc_sortSA hv hl) hm boot_sorted hg (by decide) (by decide) he
theorem ed_listDK (h : ED C S M e (.res n) M1) (hM : M1[n]? = some (.dK kvs)) (hc : C.calm = true) (hm : C.mg "list" = none) (hg : ∀ p, (C.env p).kindOf "list" = some .globalImplicit := by intro _; rfl)
    (he : ∀ p, starEach [e] (C.env p) = (false, eval e (C.env p)) :: starEach [] (C.env p) := by intro _; rfl) : ED C S M (.Call (.Name "list" p2) [e] [] pos) (.lst (kvs.map fun kv => keyD kv.1)) M1 :=
  ed_callTy (r := rListD) (fun X hX => by
    have z : X.calm = true → CallR X (.type "list") rListD := call_list_dK
    cases hX with | mk p => exact z hc) (ad_cons h ad_nil he) (fun w H vs hs r Q q => by
      obtain ⟨y, rfl, r1⟩ := reps_one r
      rw [rep_res] at r1
      obtain ⟨p, hp, rfl⟩ := r1
      obtain ⟨p1, o1, e1, e2, ws, rfl, kr⟩ := hs.res hM
      rw [hp] at e1; cases e1
      refine ⟨p, ws, rfl, e2, fun l hl => ?_⟩
      have er : Reps C.K w (kvs.map fun kv => keyD kv.1) (ws.map fun kv => kV kv.1) := by
        have e3 : (kvs.map fun kv => keyD kv.1) = ((kvs.map (·.1)).map kV).map D.v := by
          rw [List.map_map, List.map_map]
          refine List.map_congr_left fun kv _ => ?_
          cases hk : kv.1 <;> simp [keyD, kV, hk, Function.comp]
        rw [e3, reps_vs, ← kr.1, List.map_map]; rfl
      obtain ⟨g, s4, r4⟩ := hs.put_lst er hl
      exact q _ _ _ g s4 r4) hm boot_list hg (by decide) (by decide) he
theorem ed_setd (ho : ED C S M o (.res n) M1) (hi : ED C S M1 a (keyD key) M2) (hx : ED C S M2 b dd M3) (hM1 : M1[n]? = some (.dK kvs)) (hM : M3[n]? = some (.dK kvs)) (hl : kvs.length < 100000)
    (hd : (valD kvs key = some d ∧ M' = M3) ∨ (valD kvs key = none ∧ d = dd ∧ M' = M3.set n (.dK (putD kvs key dd)))) (hbase : ∀ p, attributeBase o "setdefault" (C.env p) (eval o (C.env p)) = eval o (C.env p) := by intro _; rfl)
    (hfew : ∀ p, ((backTo cpos (starEach [a, b] (C.env p))).all (fun x => !x.1) && (backToKw cpos (keywordEach [] (C.env p))).all (fun x => x.1.isSome)
      && decide (([a, b] : List Expr).length + ([] : List Keyword).length + (if ([] : List Keyword).isEmpty then 0 else 1) < 30)) = true := by intro _; rfl)
    (hline : (apos.endLine == cpos.line) = true := by rfl) (htr : ∀ p, backTo cpos (starEach [a, b] (C.env p)) = [(false, eval a (C.env p)), (false, eval b (C.env p))] := by intro _; rfl) :
    ED C S M (.Call (.Attribute o "setdefault" apos) [a, b] [] cpos) d M' :=
  ED.of (t := tDSetd (wE C o) (wE C a) (wE C b)) (fun X hX => by
    have z : L2.M2 X o "setdefault" apos a b cpos → PE X (.Call (.Attribute o "setdefault" apos) [a, b] [] cpos) (tDSetd (wE C o) (wE C a) (wE C b)) := fun m => pe_dsetd (pe_w hX) (pe_w hX) (pe_w hX) m
    cases hX with | mk p => exact z ⟨hbase p, hfew p, hline, htr p⟩) fun w σ H hsat hr Q q =>
    ho w σ H hsat hr _ fun w1 H1 x l1 s1 r1 => by
      rw [rep_res] at r1
      obtain ⟨p, hp, rfl⟩ := r1
      obtain ⟨p1, o1, e1, e2, ws1, rfl, kr1⟩ := s1.res hM1
      rw [hp] at e1; cases e1
      refine ⟨p, rfl, .inl ⟨ws1, .inl e2⟩, hi w1 σ H1 s1 (hr.go l1) _ fun w2 H2 y l2 s2 r2 => hx w2 σ H2 s2 (hr.go (l1.trans l2)) _ fun w3 H3 z l3 s3 r3 => ?_⟩
      rw [rep_key] at r2
      subst r2
      obtain ⟨p3, o3, e3, e4, ws, rfl, kr⟩ := s3.res hM
      have hp3 := (l2.trans l3).le.at hp
      rw [hp3] at e3; cases e3
      obtain ⟨g1, g2⟩ := kvrep_val (k := key) kr
      have lz : ws.length < sizeLine := by rw [kr.length]; exact Nat.lt_of_lt_of_le hl (by decide)
      refine ⟨ws, key, e4, rfl, lz, fun v hv => ?_, fun hv => ?_⟩
      · rcases hd with ⟨hd, rfl⟩ | ⟨hd, _, _⟩
        · obtain ⟨v', ev, rv⟩ := g1 _ hd
          rw [hv] at ev
          cases ev
          exact q w3 H3 v ((l1.trans l2).trans l3) s3 rv
        · rw [g2 hd] at hv; cases hv
      · rcases hd with ⟨hd, rfl⟩ | ⟨hd, rfl, rfl⟩
        · obtain ⟨v', ev, rv⟩ := g1 _ hd
          rw [hv] at ev; cases ev
        · have g := ((l1.trans l2).trans l3).trans (Go.chg (o := .dK (putK ws key z)) hp3)
          exact q w3 _ z g (s3.chg hp3 ⟨_, rfl, kvrep_put kr r3⟩) r3
/-- a dict of one pair -/
theorem ed_disp1 (hk : ED C S (M ++ [.dK []]) k (keyD key) M1) (hv : ED C S M1 v dv M2) (hM : M2[M.length]? = some (.dK [])) : ED C S M (.Dict [some k] [v] pos) (.res M.length) (M2.set M.length (.dK [(key, dv)])) :=
  ED.of (t := tDisp [(wE C k, wE C v)]) (fun X hX => pe_disp (pps_cons (pe_w hX) (pe_w hX) pps_nil) rfl rfl (by simp) (by simp)) fun w σ H hs hr Q q p hp => by
    obtain ⟨g0, s0, r0⟩ := hs.put_res (mo := .dK []) (o := .dK []) ⟨[], rfl, rfl, reps_nil'⟩ hp
    refine hk _ σ _ s0 (hr.go g0) _ fun w1 H1 x l1 s1 r1 => hv w1 σ H1 s1 (hr.go (g0.trans l1)) _ fun w2 H2 y l2 s2 r2 => ?_
    rw [rep_key] at r1
    subst r1
    rw [rep_res] at r0
    obtain ⟨p', hp', ep⟩ := r0
    cases ep
    have hp2 := (l1.trans l2).le.at hp'
    obtain ⟨p3, o3, e3, e4, ws, rfl, kr⟩ := s2.res hM
    rw [hp2] at e3; cases e3
    have hw : ws = [] := by
      have := kr.length
      simpa using this
    subst hw
    refine ⟨e4, [(key, y)], rfl, (by show 1 ≤ 15; decide), ?_⟩
    have g := ((g0.trans l1).trans l2).trans (Go.chg (o := .dK (mergeK [] [(key, y)])) hp2)
    exact q w2 _ _ g (s2.chg hp2 ⟨_, rfl, kvrep_put kr r2⟩) (rep_res.mpr ⟨_, hp2, rfl⟩)
end
end DL
set_option maxHeartbeats 400000
namespace KS
open PySem PySem.Spec PyProof.Rows L2 DL
/-! ### law 11: keys -/
def ascS (x : Str) : Prop := ∀ c ∈ x.cps.toList, c < 128
theorem ascS.ok {x : Str} (h : ascS x) : PyData.strOk x = true := by
  show x.cps.all (· < 0x110000) = true
  rw [← Array.all_toList, List.all_eq_true]
  intro c hc
  have := h c hc
  exact decide_eq_true (by omega)
theorem cps_app (x y : Str) : (x ++ y).cps.toList = x.cps.toList ++ y.cps.toList := by
  show (x.cps ++ y.cps).toList = _
  rw [Array.toList_append]
theorem ascS.app {x y : Str} (h : ascS x) (g : ascS y) : ascS (x ++ y) := fun c hc => by
  rw [cps_app] at hc
  rcases List.mem_append.mp hc with hc | hc
  · exact h c hc
  · exact g c hc
theorem len_cps (x : Str) : x.cps.toList.length = x.length := by
  show x.cps.toList.length = x.cps.size
  simp
theorem len_app (x y : Str) : (x ++ y).length = x.length + y.length := by
  rw [← len_cps, cps_app, List.length_append, len_cps, len_cps]
theorem ascS.cut {x : Str} (h : ascS x) (lo hi : Option Int) : ascS (cutS x lo hi) := fun c hc => by
  have e : (cutS x lo hi).cps.toList = ((x.cps.toList.drop (HT.sIx x.length 0 lo)).take (HT.sIx x.length x.length hi - HT.sIx x.length 0 lo)) := by
    unfold cutS
    rw [List.toList_toArray]
  rw [e] at hc
  have hc' := hc
  exact h c (List.mem_of_mem_drop (List.mem_of_mem_take hc'))
theorem cut_to {x : Str} {p : Nat} (hp : p ≤ x.length) : (cutS x none (some (p : Int))).length = p := by
  unfold cutS
  rw [← len_cps]
  simp only [HT.sIx_none, HT.sIx_nat]
  rw [List.toList_toArray, List.length_take, List.length_drop, len_cps]
  omega
theorem cut_from {x : Str} {p : Nat} (hp : p ≤ x.length) : (cutS x (some (p : Int)) none).length = x.length - p := by
  unfold cutS
  rw [← len_cps]
  simp only [HT.sIx_none, HT.sIx_nat]
  rw [List.toList_toArray, List.length_take, List.length_drop, len_cps]
  omega
theorem upper_ok {x : Str} (h : ascS x) : ascS (Txt.upper x) ∧ (Txt.upper x).length = x.length := by
  rw [upper_ascii h]
  refine ⟨fun c hc => ?_, by show (x.cps.map up1).size = x.cps.size; simp⟩
  have hc' : c ∈ x.cps.toList.map up1 := by simpa using hc
  obtain ⟨d, hd, rfl⟩ := List.mem_map.mp hc'
  have := h d hd
  unfold up1
  split <;> omega
theorem lower_ok {x : Str} (h : ascS x) : ascS (Txt.lower x) ∧ (Txt.lower x).length = x.length := by
  rw [lower_ascii h]
  refine ⟨fun c hc => ?_, by show (x.cps.map lo1).size = x.cps.size; simp⟩
  have hc' : c ∈ x.cps.toList.map lo1 := by simpa using hc
  obtain ⟨d, hd, rfl⟩ := List.mem_map.mp hc'
  have := h d hd
  unfold lo1
  split <;> omega
def ch11 (c : Int) (k : Nat) : Nat := keyChars.cps.toList.getD ((c / 5 + (1 + c / 5 % 3) * (k : Int) * (k : Int)) % 88).toNat 0
theorem ch11_ok (c : Int) (k : Nat) : atI keyChars.cps.toList ((c / 5 + (1 + c / 5 % 3) * (k : Int) * (k : Int)) % ((keyChars.length : Nat) : Int)) = some (ch11 c k) := by
  obtain ⟨h1, h2⟩ := keyChars_len
  rw [h1]
  unfold ch11
  generalize c / 5 + (1 + c / 5 % 3) * (k : Int) * (k : Int) = y
  have a := Int.emod_nonneg y (b := ((88 : Nat) : Int)) (by omega)
  have b := Int.emod_lt_of_pos y (b := ((88 : Nat) : Int)) (by omega)
  generalize e : y % ((88 : Nat) : Int) = z at a b
  obtain ⟨m, rfl⟩ := Int.eq_ofNat_of_zero_le a
  refine atI_nat ?_
  have hm : m < keyChars.cps.toList.length := by rw [h2]; omega
  rw [Int.toNat_natCast, List.getD_eq_getElem?_getD, List.getElem?_eq_getElem hm]; rfl
theorem ch11_lt (c : Int) (k : Nat) : ch11 c k < 128 := by
  have h : keyChars.cps.toList.all (fun x => decide (x < 128)) = true := by decide +kernel
  rw [List.all_eq_true] at h
  unfold ch11
  rw [List.getD_eq_getElem?_getD]
  cases e : keyChars.cps.toList[((c / 5 + (1 + c / 5 % 3) * (k : Int) * (k : Int)) % 88).toNat]? with
  | none => decide
  | some x =>
    have := h x (List.mem_of_getElem? e)
    simpa using this
def one11 (c : Nat) : Str := ⟨#[c]⟩
theorem one11_asc {c : Nat} (h : c < 128) : ascS (one11 c) := fun d hd => by
  have : d = c := by simpa [one11] using hd
  omega
def key11To (c : Int) : Nat → Str
  | 0 => ""
  | k + 1 => key11To c k ++ one11 (ch11 c k)
theorem key11To_ok (c : Int) : ∀ k, (key11To c k).length = k ∧ ascS (key11To c k)
  | 0 => ⟨rfl, by
    have : ("" : Str).cps.toList = [] := by decide +kernel
    intro d hd
    have hd' : d ∈ ("" : Str).cps.toList := hd
    rw [this] at hd'
    cases hd'⟩
  | k + 1 => by
    obtain ⟨h1, h2⟩ := key11To_ok c k
    exact ⟨(len_app _ _).trans (by rw [h1]; rfl), h2.app (one11_asc (ch11_lt c k))⟩
def klen11 (c : Int) : Nat := if c % 5 = 0 then 1 else if c % 5 = 1 then 3 else if c % 5 = 2 then 12 else if c % 5 = 3 then 40 else 100
theorem klen11_ok (c : Int) : 1 ≤ klen11 c ∧ klen11 c ≤ 100 := by
  unfold klen11
  repeat' split
  all_goals decide
theorem klen11_at (c : Int) : atI [dInt 1, dInt 3, dInt 12, dInt 40, dInt 100] (c % 5) = some (dInt (klen11 c : Nat)) := by
  have a := Int.emod_nonneg c (b := 5) (by omega)
  have b := Int.emod_lt_of_pos c (b := 5) (by omega)
  unfold klen11
  generalize c % 5 = z at a b
  have : z = 0 ∨ z = 1 ∨ z = 2 ∨ z = 3 ∨ z = 4 := by omega
  rcases this with rfl | rfl | rfl | rfl | rfl <;> rfl
def key11 (c : Int) : Str := key11To c (klen11 c)
theorem key11_ok (c : Int) : 1 ≤ (key11 c).length ∧ (key11 c).length ≤ 100 ∧ ascS (key11 c) := by
  obtain ⟨h1, h2⟩ := key11To_ok c (klen11 c)
  obtain ⟨h3, h4⟩ := klen11_ok c
  unfold key11
  rw [h1]
  exact ⟨h3, h4, h2⟩
def sKey11 : Spc := fun ds M r => ∃ c : Int, ds = [dInt c] ∧ r = .ok (.v (.str (key11 c))) M
/-! ### the writing of a whole number below 70 -/
def dig (i : Nat) : Str := (toString (i : Int) : Str)
theorem dig_ok : ∀ i, i < 70 → (dig i).length ≤ 2 ∧ 1 ≤ (dig i).length ∧ (∀ c ∈ (dig i).cps.toList, c < 128) := by decide +kernel
theorem dig_inj : ∀ i, i < 70 → ∀ j, j < 70 → dig i = dig j → i = j := by decide +kernel
def rk11 (j : Nat) : Str := repT "r" 110 ++ dig j
theorem repr_ok : (repT "r" 110).length = 110 ∧ (∀ c ∈ (repT "r" 110).cps.toList, c < 128) := by decide +kernel
theorem rk11_ok {j : Nat} (h : j < 70) : 111 ≤ (rk11 j).length ∧ (rk11 j).length ≤ 112 ∧ ascS (rk11 j) := by
  obtain ⟨h1, h2, h3⟩ := dig_ok j h
  unfold rk11
  rw [len_app, repr_ok.1]
  exact ⟨by omega, by omega, ascS.app repr_ok.2 h3⟩
theorem rk11_inj {i j : Nat} (hi : i < 70) (hj : j < 70) (h : rk11 i = rk11 j) : i = j := by
  refine dig_inj i hi j hj ?_
  have e : (rk11 i).cps.toList = (rk11 j).cps.toList := by rw [h]
  unfold rk11 at e
  rw [cps_app, cps_app] at e
  exact Str.ext' (Array.toList_inj.mp (List.append_cancel_left e))
/-! ### a key near another one -/
def kK11 (c : Int) : Str := if c / 7 % 2 = 0 then one11 107 else one11 75
def at11 (z : Str) (c : Int) : Nat := (c / 7 % (z.length : Int)).toNat
def near11 (z : Str) (c : Int) : Str :=
  if c % 7 = 0 then Txt.upper z
  else if c % 7 = 1 then Txt.lower z
  else if c % 7 = 2 then cutS z none (some (at11 z c : Nat)) ++ (" " : Str) ++ cutS z (some (at11 z c : Nat)) none
  else if c % 7 = 3 then cutS z none (some (at11 z c : Nat)) ++ cutS z (some ((at11 z c + 1 : Nat) : Int)) none
  else if c % 7 = 4 then cutS z none (some (at11 z c : Nat)) ++ ("Q" : Str) ++ cutS z (some ((at11 z c + 1 : Nat) : Int)) none
  else if c % 7 = 5 then kK11 c ++ dig (c / 14 % 70).toNat
  else z ++ (" " : Str)
theorem at11_lt {z : Str} (h : 1 ≤ z.length) (c : Int) : at11 z c < z.length ∧ ((at11 z c : Nat) : Int) = c / 7 % (z.length : Int) := by
  have a := Int.emod_nonneg (c / 7) (b := (z.length : Int)) (by omega)
  have b := Int.emod_lt_of_pos (c / 7) (b := (z.length : Int)) (by omega)
  unfold at11
  exact ⟨by omega, by omega⟩
theorem sp_ok : (" " : Str).length = 1 ∧ (∀ c ∈ (" " : Str).cps.toList, c < 128) := by decide +kernel
theorem q_ok : ("Q" : Str).length = 1 ∧ (∀ c ∈ ("Q" : Str).cps.toList, c < 128) := by decide +kernel
theorem near11_ok {z : Str} (h1 : 1 ≤ z.length) (h2 : z.length ≤ 100) (ha : ascS z) (c : Int) : ascS (near11 z c) ∧ (near11 z c).length ≤ 110 := by
  obtain ⟨hp, _⟩ := at11_lt h1 c
  unfold near11
  generalize at11 z c = p at hp
  have c1 := cut_to (x := z) (p := p) (by omega)
  have c2 := cut_from (x := z) (p := p) (by omega)
  have c3 := cut_from (x := z) (p := p + 1) (by omega)
  have a1 := ha.cut none (some (p : Int))
  have a2 := ha.cut (some (p : Int)) none
  have a3 := ha.cut (some ((p + 1 : Nat) : Int)) none
  split
  · exact ⟨(upper_ok ha).1, by rw [(upper_ok ha).2]; omega⟩
  split
  · exact ⟨(lower_ok ha).1, by rw [(lower_ok ha).2]; omega⟩
  split
  · exact ⟨ascS.app (ascS.app a1 sp_ok.2) a2, by rw [len_app, len_app, c1, c2, sp_ok.1]; omega⟩
  split
  · exact ⟨ascS.app a1 a3, by rw [len_app, c1, c3]; omega⟩
  split
  · exact ⟨ascS.app (ascS.app a1 q_ok.2) a3, by rw [len_app, len_app, c1, c3, q_ok.1]; omega⟩
  split
  · have hd : (c / 14 % 70).toNat < 70 := by omega
    obtain ⟨d1, d2, d3⟩ := dig_ok _ hd
    have hk : ascS (kK11 c) ∧ (kK11 c).length = 1 := by
      unfold kK11
      split
      · exact ⟨one11_asc (by decide), rfl⟩
      · exact ⟨one11_asc (by decide), rfl⟩
    exact ⟨ascS.app hk.1 d3, by rw [len_app, hk.2]; omega⟩
  · exact ⟨ascS.app ha sp_ok.2, by rw [len_app, sp_ok.1]; omega⟩
def sNear11 : Spc := fun ds M r => ∃ (z : Str) (c : Int), ds = [.v (.str z), dInt c] ∧ 1 ≤ z.length ∧ z.length ≤ 100 ∧ ascS z ∧ r = .ok (.v (.str (near11 z c))) M
end KS
set_option maxHeartbeats 400000
namespace KS
open PySem PySem.Spec PyProof.Rows L2 DL
/-! ### law 11: a deed -/
def sh11 (n : Nat) (dc : List Dct) (key : Str) (k : Nat) : Shelf := getS n (dc.getD k []) key
def pick11 (c t : Int) : Int := c / 81 + 5 * t
def to11 (n : Nat) (c t : Int) : Nat := (((kp10 n c : Nat) + 1 + pick11 c t % ((n : Int) - 1)) % (n : Int)).toNat
def look11 (lk : List (List Int)) (c t : Int) : List Int := lk.getD (pick11 c t % ((lk.length : Nat) : Int)).toNat []
def deed11 (n : Nat) (sh : Nat → Shelf) (lk : List (List Int)) (c t : Int) : Option (Nat × Shelf) :=
  if srt10 c t < 4 then some (kp10 n c, putShelf (sh (kp10 n c)) (look11 lk c t) (kp10 n c) (c % 10 ^ 40 + t))
  else if srt10 c t = 4 then some (kp10 n c, dropShelf (sh (kp10 n c)) (look11 lk c t))
  else if srt10 c t < 7 then none
  else some (to11 n c t, metShelf (sh (to11 n c t)) (sh (kp10 n c)).1 (sh (kp10 n c)).2)
def MkOk (n : Nat) (lk : List (List Int)) : Prop := lk ≠ [] ∧ ∀ u ∈ lk, u.length = n ∧ ∀ x ∈ u, 0 ≤ x
theorem to11_lt {n : Nat} (h : 1 ≤ n) (c t : Int) : to11 n c t < n ∧ ((to11 n c t : Nat) : Int) = ((kp10 n c : Nat) + 1 + pick11 c t % ((n : Int) - 1)) % (n : Int) := by
  have a := Int.emod_nonneg ((kp10 n c : Nat) + 1 + pick11 c t % ((n : Int) - 1)) (b := (n : Int)) (by omega)
  have b := Int.emod_lt_of_pos ((kp10 n c : Nat) + 1 + pick11 c t % ((n : Int) - 1)) (b := (n : Int)) (by omega)
  unfold to11
  exact ⟨by omega, by omega⟩
theorem look11_mem {lk : List (List Int)} (h : lk ≠ []) (c t : Int) : look11 lk c t ∈ lk := by
  have h0 : 0 < lk.length := List.length_pos_iff.mpr h
  have a := Int.emod_nonneg (pick11 c t) (b := ((lk.length : Nat) : Int)) (by omega)
  have b := Int.emod_lt_of_pos (pick11 c t) (b := ((lk.length : Nat) : Int)) (by omega)
  exact mem_getD (by omega)
theorem deed11_congr {n : Nat} {sh sh' : Nat → Shelf} (h : ∀ k, k < n → sh k = sh' k) (hn : 1 ≤ n) (lk : List (List Int)) (c t : Int) : deed11 n sh lk c t = deed11 n sh' lk c t := by
  unfold deed11
  rw [h _ (kp10_lt hn c).1, h _ (to11_lt hn c t).1]
theorem deed11_ok {n : Nat} {G : List (List Int)} {sh : Nat → Shelf} {lk : List (List Int)} (h : ∀ k, k < n → GS n G (sh k)) (hm : MkOk n lk) (hn : 1 ≤ n) (c t : Int) :
    ∃ G', G'.length ≤ G.length + 1 ∧ (∀ x ∈ G, x ∈ G') ∧ ∀ k s, deed11 n sh lk c t = some (k, s) → k < n ∧ GS n G' s := by
  have hk := (kp10_lt hn c).1
  have ht := (to11_lt hn c t).1
  obtain ⟨hu, _⟩ := hm.2 _ (look11_mem hm.1 c t)
  refine ⟨G ++ [[(kp10 n c : Int), (sh (kp10 n c)).1.getD (kp10 n c) 0 + 1, c % 10 ^ 40 + t]], by simp, fun x hx => List.mem_append_left _ hx, fun k s e => ?_⟩
  unfold deed11 at e
  split at e
  · cases e
    exact ⟨hk, (h _ hk).put hu hk⟩
  split at e
  · cases e
    exact ⟨hk, ((h _ hk).drop hu).mono fun x hx => List.mem_append_left _ hx⟩
  split at e
  · cases e
  · cases e
    exact ⟨ht, ((h _ ht).met (h _ hk)).mono fun x hx => List.mem_append_left _ hx⟩
def eff11 (M : Mem) (is : List Nat) (dc : List Dct) (key : Str) (p : Nat) (lk : List (List Int)) (m : List Int) : Option (Nat × Shelf) → Mem
  | some (k, s) => M.set (is.getD k 0) (.dK (dcD (putS (dc.getD k []) key s)))
  | none => M.set p (.lst (lk.map tupI ++ [tupI m]))
def sDeed11 (Cl : Addr) : Spc := fun ds M r => ∃ (i n t p : Nat) (is : List Nat) (dc : List Dct) (key : Str) (G lk : List (List Int)) (c : Int), StoreAt Cl M i is dc ∧ dc.length = n ∧ 2 ≤ n ∧ n ≤ 9 ∧ (∀ k, k < n → GS n G (sh11 n dc key k)) ∧ G.length ≤ 60 ∧
  (∀ d ∈ dc, d.length ≤ 900) ∧ M[p]? = some (.lst (lk.map tupI)) ∧ MkOk n lk ∧ lk.length ≤ 900 ∧ ds = [.res i, .res p, .v (.str key), dInt c, dInt (t : Nat), dInt (n : Nat)] ∧
  r = .ok (.v .non) (eff11 M is dc key p lk (sh11 n dc key (kp10 n c)).1 (deed11 n (sh11 n dc key) lk c (t : Nat)))
def sSame11 (Cl : Addr) : Spc := fun ds M r => ∃ (i1 i2 n : Nat) (is1 is2 : List Nat) (d1 d2 : List Dct) (key : Str), StoreAt Cl M i1 is1 d1 ∧ StoreAt Cl M i2 is2 d2 ∧ d1.length = n ∧ d2.length = n ∧ n ≤ 9 ∧ (∀ k, k < n → GoodS n (sh11 n d1 key k) ∧ sh11 n d2 key k = sh11 n d1 key k) ∧
  ds = [.res i1, .res i2, .v (.str key), dInt (n : Nat)] ∧ r = .ok (.v (.bl true)) M
def sKeysA (Cl : Addr) : Spc := fun ds M r => ∃ (i k x n : Nat) (is : List Nat) (dc : List Dct) (d : Dct), At Cl M i k x n is dc d ∧ d.length ≤ 1000 ∧ ds = [.res i, dInt (k : Nat)] ∧
  r = .ok (.lst ((sortS ((d.filter fun p => !p.2.2.isEmpty).map (·.1))).map fun x => .v (.str x))) M
/-! ### what stands -/
structure Q11 where
  d1 : List Dct
  d2 : List Dct
  l0 : List (List Int)
  own : List (List Int)
  mo : List (Str × List (List Int))
def looks11 (mine : Str) (B : Nat) (mo : List (Str × List (List Int))) : List (Key × D) := (.inr mine, .res (B + 1)) :: mo.mapIdx fun j p => (.inr p.1, .res (B + 3 + j))
def T11 (mine : Str) (B : Nat) (q : Q11) : Mem := .dK (looks11 mine B q.mo) :: .lst (q.l0.map tupI) :: .lst (q.own.map tupI) :: q.mo.map fun p => MO.lst (p.2.map tupI)
def B11 (M0 : Mem) (n : Nat) : Nat := M0.length + 1 + n + 1 + n
def mem11 (Cl : Addr) (M0 : Mem) (n : Nat) (mine : Str) (q : Q11) : Mem := memS Cl (memS Cl M0 n q.d1 []) n q.d2 (T11 mine (B11 M0 n) q)
section
variable {Cl : Addr} {M0 : Mem} {n : Nat} {mine : Str} {q : Q11}
theorem in11_len (h1 : q.d1.length = n) : (memS Cl M0 n q.d1 []).length = M0.length + 1 + n := by rw [memS_len h1]; rfl
theorem mem11_one (h1 : q.d1.length = n) : mem11 Cl M0 n mine q = memS Cl M0 n q.d1 (.ins Cl (fldsD n (isOf (M0.length + 1 + n) n)) :: ((q.d2.map fun d => MO.dK (dcD d)) ++ T11 mine (B11 M0 n) q)) := by
  have e : mem11 Cl M0 n mine q = memS Cl M0 n q.d1 [] ++ (.ins Cl (fldsD n (isOf (memS Cl M0 n q.d1 []).length n)) :: ((q.d2.map fun d => MO.dK (dcD d)) ++ T11 mine (B11 M0 n) q)) := rfl
  rw [e, in11_len h1, memS_app]; rfl
theorem mem11_st1 (h1 : q.d1.length = n) : StoreAt Cl (mem11 Cl M0 n mine q) M0.length (isOf M0.length n) q.d1 := by
  rw [mem11_one h1]; exact memS_st h1
theorem mem11_st2 (h1 : q.d1.length = n) (h2 : q.d2.length = n) : StoreAt Cl (mem11 Cl M0 n mine q) (M0.length + 1 + n) (isOf (M0.length + 1 + n) n) q.d2 := by
  have := memS_st (Cl := Cl) (M0 := memS Cl M0 n q.d1 []) (T := T11 mine (B11 M0 n) q) h2
  rw [in11_len h1] at this
  exact this
theorem mem11_d1 (h1 : q.d1.length = n) {k : Nat} (hk : k < n) (d : Dct) : (mem11 Cl M0 n mine q).set (M0.length + 1 + k) (.dK (dcD d)) = mem11 Cl M0 n mine { q with d1 := q.d1.set k d } := by
  have h1' : ({ q with d1 := q.d1.set k d } : Q11).d1.length = n := by show (q.d1.set k d).length = n; rw [List.length_set]; exact h1
  rw [mem11_one h1, memS_set h1 hk, mem11_one h1']; rfl
theorem mem11_d2 (h1 : q.d1.length = n) (h2 : q.d2.length = n) {k : Nat} (hk : k < n) (d : Dct) : (mem11 Cl M0 n mine q).set (M0.length + 1 + n + 1 + k) (.dK (dcD d)) = mem11 Cl M0 n mine { q with d2 := q.d2.set k d } := by
  have := memS_set (Cl := Cl) (M0 := memS Cl M0 n q.d1 []) (T := T11 mine (B11 M0 n) q) h2 hk d
  rw [in11_len h1] at this
  exact this
theorem mem11_tail (h1 : q.d1.length = n) (h2 : q.d2.length = n) (j : Nat) : (mem11 Cl M0 n mine q)[B11 M0 n + j]? = (T11 mine (B11 M0 n) q)[j]? := by
  have := memS_tail (Cl := Cl) (M0 := memS Cl M0 n q.d1 []) (T := T11 mine (B11 M0 n) q) h2 j
  rw [in11_len h1] at this
  exact this
theorem mem11_tset (h1 : q.d1.length = n) (h2 : q.d2.length = n) (j : Nat) (x : MO) : (mem11 Cl M0 n mine q).set (B11 M0 n + j) x = memS Cl (memS Cl M0 n q.d1 []) n q.d2 ((T11 mine (B11 M0 n) q).set j x) := by
  have := memS_tset (Cl := Cl) (M0 := memS Cl M0 n q.d1 []) (T := T11 mine (B11 M0 n) q) h2 j x
  rw [in11_len h1] at this
  exact this
theorem mem11_dic (h1 : q.d1.length = n) (h2 : q.d2.length = n) : (mem11 Cl M0 n mine q)[B11 M0 n]? = some (.dK (looks11 mine (B11 M0 n) q.mo)) := mem11_tail h1 h2 0
theorem mem11_l0 (h1 : q.d1.length = n) (h2 : q.d2.length = n) : (mem11 Cl M0 n mine q)[B11 M0 n + 1]? = some (.lst (q.l0.map tupI)) := mem11_tail h1 h2 1
theorem mem11_own (h1 : q.d1.length = n) (h2 : q.d2.length = n) : (mem11 Cl M0 n mine q)[B11 M0 n + 2]? = some (.lst (q.own.map tupI)) := mem11_tail h1 h2 2
theorem mem11_mo (h1 : q.d1.length = n) (h2 : q.d2.length = n) {j : Nat} {p : Str × List (List Int)} (hj : q.mo[j]? = some p) : (mem11 Cl M0 n mine q)[B11 M0 n + 3 + j]? = some (.lst (p.2.map tupI)) := by
  rw [Nat.add_assoc, mem11_tail h1 h2 (3 + j), Nat.add_comm 3 j]
  show (q.mo.map fun p => MO.lst (p.2.map tupI))[j]? = _
  rw [List.getElem?_map, hj]; rfl
theorem mem11_l0s (h1 : q.d1.length = n) (h2 : q.d2.length = n) (m : List Int) : (mem11 Cl M0 n mine q).set (B11 M0 n + 1) (.lst (q.l0.map tupI ++ [tupI m])) = mem11 Cl M0 n mine { q with l0 := q.l0 ++ [m] } := by
  rw [mem11_tset h1 h2]
  unfold mem11 T11
  rw [List.map_append]; rfl
theorem mem11_owns (h1 : q.d1.length = n) (h2 : q.d2.length = n) (m : List Int) : (mem11 Cl M0 n mine q).set (B11 M0 n + 2) (.lst (q.own.map tupI ++ [tupI m])) = mem11 Cl M0 n mine { q with own := q.own ++ [m] } := by
  rw [mem11_tset h1 h2]
  unfold mem11 T11
  rw [List.map_append]; rfl
theorem mapSet_same {α β : Type} {f : α → β} {l : List α} {j : Nat} {a b : α} (h : l[j]? = some a) (e : f b = f a) : (l.set j b).map f = l.map f := by
  apply List.ext_getElem?
  intro i
  rw [List.getElem?_map, List.getElem?_map]
  by_cases hi : i = j
  · subst hi
    have := (List.getElem?_eq_some_iff.mp h).1
    rw [List.getElem?_set_self this, h]
    simp [e]
  · rw [List.getElem?_set_ne (fun z => hi z.symm)]
theorem looks11_set {B j : Nat} {mo : List (Str × List (List Int))} {p : Str × List (List Int)} (hj : mo[j]? = some p) (l : List (List Int)) : looks11 mine B (mo.set j (p.1, l)) = looks11 mine B mo := by
  unfold looks11
  congr 1
  apply List.ext_getElem?
  intro i
  rw [List.getElem?_mapIdx, List.getElem?_mapIdx]
  by_cases hi : i = j
  · subst hi
    have := (List.getElem?_eq_some_iff.mp hj).1
    rw [List.getElem?_set_self this, hj]; rfl
  · rw [List.getElem?_set_ne (fun z => hi z.symm)]
theorem mem11_mos (h1 : q.d1.length = n) (h2 : q.d2.length = n) {j : Nat} {p : Str × List (List Int)} (hj : q.mo[j]? = some p) (m : List Int) : (mem11 Cl M0 n mine q).set (B11 M0 n + 3 + j) (.lst (p.2.map tupI ++ [tupI m])) = mem11 Cl M0 n mine { q with mo := q.mo.set j (p.1, p.2 ++ [m]) } := by
  rw [Nat.add_assoc, mem11_tset h1 h2, Nat.add_comm 3 j]
  unfold mem11 T11
  show memS Cl (memS Cl M0 n q.d1 []) n q.d2 (.dK (looks11 mine (B11 M0 n) q.mo) :: .lst (q.l0.map tupI) :: .lst (q.own.map tupI) :: (q.mo.map fun p => MO.lst (p.2.map tupI)).set j _) = memS Cl (memS Cl M0 n q.d1 []) n q.d2 (.dK (looks11 mine (B11 M0 n) (q.mo.set j (p.1, p.2 ++ [m]))) :: .lst (q.l0.map tupI) :: .lst (q.own.map tupI) :: (q.mo.set j (p.1, p.2 ++ [m])).map fun p => MO.lst (p.2.map tupI))
  rw [looks11_set hj, List.map_set, List.map_append]; rfl
theorem mem11_len (h1 : q.d1.length = n) (h2 : q.d2.length = n) : (mem11 Cl M0 n mine q).length = B11 M0 n + 3 + q.mo.length := by
  unfold mem11
  rw [memS_len h2, in11_len h1]
  unfold T11 B11
  simp only [List.length_cons, List.length_map]
  omega
theorem looks11_app (B : Nat) (mo : List (Str × List (List Int))) (p : Str × List (List Int)) : looks11 mine B (mo ++ [p]) = looks11 mine B mo ++ [(.inr p.1, .res (B + 3 + mo.length))] := by
  unfold looks11
  rw [List.mapIdx_append]
  simp
theorem mem11_new (h1 : q.d1.length = n) (h2 : q.d2.length = n) (y : Str) (b : List Int) : (mem11 Cl M0 n mine q ++ [MO.lst [tupI b]]).set (B11 M0 n) (MO.dK (looks11 mine (B11 M0 n) q.mo ++ [(Sum.inr y, D.res (mem11 Cl M0 n mine q).length)])) = mem11 Cl M0 n mine { q with mo := q.mo ++ [(y, [b])] } := by
  rw [mem11_len h1 h2, ← looks11_app (B11 M0 n) q.mo (y, [b])]
  have e : mem11 Cl M0 n mine q ++ [MO.lst [tupI b]] = memS Cl (memS Cl M0 n q.d1 []) n q.d2 (T11 mine (B11 M0 n) q ++ [MO.lst [tupI b]]) := memS_app _
  have e2 := memS_tset (Cl := Cl) (M0 := memS Cl M0 n q.d1 []) (T := T11 mine (B11 M0 n) q ++ [MO.lst [tupI b]]) h2 0 (MO.dK (looks11 mine (B11 M0 n) (q.mo ++ [(y, [b])])))
  rw [in11_len h1] at e2
  rw [e]
  refine e2.trans ?_
  unfold mem11 T11
  rw [List.map_append]; rfl
end
theorem valD_at {kvs : List (Key × D)} {k : Key} {d : D} : ∀ {j : Nat}, (kvs.map (·.1)).Nodup → kvs[j]? = some (k, d) → valD kvs k = some d := by
  induction kvs with
  | nil => intro j _ h; simp at h
  | cons p kvs ih =>
    intro j nd h
    unfold valD
    rw [List.map_cons] at nd
    cases j with
    | zero =>
      have : p = (k, d) := by simpa using h
      subst this
      simp
    | succ j =>
      have hj : kvs[j]? = some (k, d) := by simpa using h
      have hm : k ∈ kvs.map (·.1) := List.mem_map.mpr ⟨_, List.mem_of_getElem? hj, rfl⟩
      have hne : ¬ p.1 = k := fun e => (List.nodup_cons.mp nd).1 (by rw [e]; exact hm)
      have := ih (List.nodup_cons.mp nd).2 hj
      unfold valD at this
      rw [List.find?_cons_of_neg (by simpa using hne)]
      exact this
theorem valD_no {kvs : List (Key × D)} {k : Key} (h : k ∉ kvs.map (·.1)) (v : D) : valD kvs k = none ∧ putD kvs k v = kvs ++ [(k, v)] := by
  have hn : ∀ p ∈ kvs, ¬ p.1 = k := fun p hp e => h (List.mem_map.mpr ⟨p, hp, e⟩)
  constructor
  · unfold valD
    rw [List.find?_eq_none.mpr (fun p hp => by simpa using hn p hp)]; rfl
  · unfold putD
    rw [if_neg]
    rw [List.any_eq_true]
    rintro ⟨p, hp, e⟩
    exact hn p hp (by simpa using e)
end KS
set_option maxHeartbeats 400000
namespace KS
open PySem PySem.Spec PyProof.Rows L2 DL
/-! ### law 11: what is kept -/
theorem sh11_set {n : Nat} {dc : List Dct} {y : Str} {k : Nat} (hk : k < dc.length) (s : Shelf) (y' : Str) (k' : Nat) : sh11 n (dc.set k (putS (dc.getD k []) y s)) y' k' = if k' = k ∧ y' = y then s else sh11 n dc y' k' := by
  unfold sh11
  rw [getD_set hk]
  by_cases e : k' = k
  · subst e
    rw [if_pos rfl, getS_put]
    by_cases e2 : y' = y
    · rw [if_pos e2, if_pos ⟨rfl, e2⟩]
    · rw [if_neg e2, if_neg (fun z => e2 z.2)]
  · rw [if_neg e, if_neg (fun z => e z.1)]
theorem putS_mem {d : Dct} {y : Str} {s : Shelf} {p : Str × Shelf} (h : p ∈ putS d y s) : p.1 = y ∨ p ∈ d := by
  unfold putS at h
  split at h
  · obtain ⟨p', hp, rfl⟩ := List.mem_map.mp h
    by_cases e : p'.1 = y
    · rw [if_pos e]; exact .inl e
    · rw [if_neg e]; exact .inr hp
  · rcases List.mem_append.mp h with h | h
    · exact .inr h
    · have : p = (y, s) := by simpa using h
      exact .inl (by rw [this])
theorem putS_nd {d : Dct} (y : Str) (s : Shelf) (h : (d.map (·.1)).Nodup) : ((putS d y s).map (·.1)).Nodup := by
  unfold putS
  split
  · rw [List.map_map]
    have e : (Prod.fst ∘ fun p : Str × Shelf => if p.1 = y then (p.1, s) else p) = Prod.fst := by
      funext p
      show (if p.1 = y then (p.1, s) else p).1 = p.1
      split <;> rfl
    rw [e]; exact h
  · rename_i hn
    rw [List.map_append]
    refine List.nodup_append.mpr ⟨h, by simp, fun a ha b hb e => hn ?_⟩
    have hb' : b = y := by simpa using hb
    subst hb' e
    obtain ⟨p, hp, e⟩ := List.mem_map.mp ha
    exact List.any_eq_true.mpr ⟨p, hp, by simpa using e⟩
theorem getS_mem {n : Nat} {d : Dct} {p : Str × Shelf} (hn : (d.map (·.1)).Nodup) (hp : p ∈ d) : getS n d p.1 = p.2 := by
  induction d with
  | nil => cases hp
  | cons r d ih =>
    rw [List.map_cons] at hn
    unfold getS getO
    by_cases e : r.1 = p.1
    · rw [List.find?_cons_of_pos (by simpa using e)]
      rcases List.mem_cons.mp hp with rfl | hp
      · rfl
      · exact absurd (List.mem_map.mpr ⟨p, hp, rfl⟩) (e ▸ (List.nodup_cons.mp hn).1)
    · rw [List.find?_cons_of_neg (by simpa using e)]
      rcases List.mem_cons.mp hp with rfl | hp
      · exact absurd rfl e
      · exact ih (List.nodup_cons.mp hn).2 hp
theorem getS_no {n : Nat} {d : Dct} {y : Str} (h : y ∉ d.map (·.1)) : getS n d y = (blankI n, []) := by
  unfold getS getO
  rw [List.find?_eq_none.mpr (fun p hp => by
    have : ¬ p.1 = y := fun e => h (List.mem_map.mpr ⟨p, hp, e⟩)
    simpa using this)]; rfl
def Q11.ks (mine : Str) (q : Q11) : List Str := mine :: q.mo.map (·.1)
structure Ok11a (n t run : Nat) (mine : Str) (q : Q11) : Prop where
  dl1 : q.d1.length = n
  dl2 : q.d2.length = n
  len1 : ∀ d ∈ q.d1, d.length ≤ run + t
  nd1 : ∀ d ∈ q.d1, (d.map (·.1)).Nodup
  gs : ∀ y, ∃ G, G.length ≤ 1 + t ∧ ∀ k, k < n → GS n G (sh11 n q.d1 y k)
  same : ∀ k, k < n → sh11 n q.d2 mine k = sh11 n q.d1 mine k
  one : ∀ d ∈ q.d2, OneD mine d
  own : q.own = q.l0
  l0 : MkOk n q.l0
  l0l : q.l0.length ≤ 1 + t
  mo : ∀ p ∈ q.mo, MkOk n p.2 ∧ p.2.length ≤ 1 + t ∧ ascS p.1 ∧ p.1.length ≤ 110
  mnd : (q.ks mine).Nodup
  ml : mine.length ≤ 100
  ma : ascS mine
  rn : run ≤ 69
  keys : ∀ k, k < n → ∀ p ∈ q.d1.getD k [], p.1 ∈ q.ks mine ∨ ∃ j, j < run ∧ j % n = k ∧ p.1 = rk11 j
  rk : ∀ j, j < run → valsI (sh11 n q.d1 (rk11 j) (j % n)).2 = [7 * (j : Int)]
section
variable {n t run : Nat} {mine : Str} {q : Q11}
theorem Ok11a.short (h : Ok11a n t run mine q) {y : Str} (hy : y ∈ q.ks mine) : y.length ≤ 110 := by
  rcases List.mem_cons.mp hy with rfl | hy
  · have := h.ml; omega
  · obtain ⟨p, hp, rfl⟩ := List.mem_map.mp hy
    exact (h.mo p hp).2.2.2
theorem Ok11a.asc (h : Ok11a n t run mine q) {y : Str} (hy : y ∈ q.ks mine) : ascS y := by
  rcases List.mem_cons.mp hy with rfl | hy
  · exact h.ma
  · obtain ⟨p, hp, rfl⟩ := List.mem_map.mp hy
    exact (h.mo p hp).2.2.1
theorem Ok11a.nrk (h : Ok11a n t run mine q) {y : Str} (hy : y ∈ q.ks mine) {j : Nat} (hj : j < run) : rk11 j ≠ y := fun e => by
  have h1 := h.short hy
  have h2 := (rk11_ok (j := j) (by have := h.rn; omega)).1
  rw [e] at h2
  omega
/-- the same later -/
theorem Ok11a.mono (h : Ok11a n t run mine q) : Ok11a n (t + 1) run mine q := { h with
  len1 := fun d hd => Nat.le_trans (h.len1 d hd) (by omega)
  gs := fun y => let ⟨G, h1, h2⟩ := h.gs y; ⟨G, by omega, h2⟩
  l0l := Nat.le_trans h.l0l (by omega)
  mo := fun p hp => let ⟨a, b, c, d⟩ := h.mo p hp; ⟨a, by omega, c, d⟩ }
/-- a shelf of the first store at a key that is looked at changes -/
theorem Ok11a.put1 (h : Ok11a n t run mine q) {y : Str} (hy : y ∈ q.ks mine) {k : Nat} {s : Shelf} (hk : k < n) {G' : List (List Int)} (hG : G'.length ≤ 1 + (t + 1)) (hs : GS n G' s) (hsub : ∀ i, i < n → GS n G' (sh11 n q.d1 y i))
    {q' : Q11} (e1 : q'.d1 = q.d1.set k (putS (q.d1.getD k []) y s)) (e2 : q'.l0 = q.l0) (e3 : q'.own = q.own) (e4 : q'.mo = q.mo) (hd2 : q'.d2.length = n) (hone : ∀ d ∈ q'.d2, OneD mine d) (hsame : ∀ i, i < n → sh11 n q'.d2 mine i = sh11 n q'.d1 mine i) : Ok11a n (t + 1) run mine q' := by
  have m := h.mono
  have hk2 : k < q.d1.length := by rw [h.dl1]; exact hk
  have ek : q'.ks mine = q.ks mine := by unfold Q11.ks; rw [e4]
  have hd : ∀ d ∈ q'.d1, d ∈ q.d1 ∨ d = putS (q.d1.getD k []) y s := fun d hd => by
    rw [e1] at hd
    exact List.mem_or_eq_of_mem_set hd
  have hin : q.d1.getD k [] ∈ q.d1 := mem_getD hk2
  refine ⟨by rw [e1, List.length_set]; exact h.dl1, hd2, fun d hdd => ?_, fun d hdd => ?_, fun y' => ?_, hsame, hone, by rw [e3, e2]; exact h.own, by rw [e2]; exact h.l0, by rw [e2]; exact m.l0l, by rw [e4]; exact m.mo, by rw [ek]; exact h.mnd, h.ml, h.ma, h.rn, fun i hi p hp => ?_, fun j hj => ?_⟩
  · rcases hd d hdd with hdd | rfl
    · exact m.len1 d hdd
    · have a := putS_len (q.d1.getD k []) y s
      have b := h.len1 _ hin
      omega
  · rcases hd d hdd with hdd | rfl
    · exact h.nd1 d hdd
    · exact putS_nd y s (h.nd1 _ hin)
  · rw [e1]
    by_cases e : y' = y
    · subst e
      refine ⟨G', hG, fun i hi => ?_⟩
      rw [sh11_set hk2]
      split
      · exact hs
      · exact hsub i hi
    · obtain ⟨G, g1, g2⟩ := m.gs y'
      refine ⟨G, g1, fun i hi => ?_⟩
      rw [sh11_set hk2, if_neg (fun z => e z.2)]
      exact g2 i hi
  · rw [ek]
    rw [e1, getD_set hk2] at hp
    split at hp
    · rename_i e
      subst e
      rcases putS_mem hp with e | hp
      · exact .inl (by rw [e]; exact hy)
      · exact h.keys i hi p hp
    · exact h.keys i hi p hp
  · rw [e1, sh11_set hk2, if_neg (fun z => h.nrk hy hj z.2)]
    exact h.rk j hj
theorem Ok11a.fst_same (h : Ok11a n t run mine q) {y : Str} (hne : y ≠ mine) {k : Nat} (hk : k < n) (s : Shelf) (i : Nat) (hi : i < n) : sh11 n q.d2 mine i = sh11 n (q.d1.set k (putS (q.d1.getD k []) y s)) mine i := by
  have hk2 : k < q.d1.length := by rw [h.dl1]; exact hk
  rw [sh11_set hk2, if_neg (fun z => hne z.2.symm)]
  exact h.same i hi
/-- a deed at another key, which changes a shelf -/
theorem Ok11a.else1 (h : Ok11a n t run mine q) {y : Str} (hy : y ∈ q.ks mine) (hne : y ≠ mine) {k : Nat} {s : Shelf} (hk : k < n) {G' : List (List Int)} (hG : G'.length ≤ 1 + (t + 1)) (hs : GS n G' s) (hsub : ∀ i, i < n → GS n G' (sh11 n q.d1 y i)) :
    Ok11a n (t + 1) run mine { q with d1 := q.d1.set k (putS (q.d1.getD k []) y s) } :=
  h.put1 hy hk hG hs hsub rfl rfl rfl rfl h.dl2 h.one (h.fst_same hne hk s)
/-- a deed at the key itself, in both stores -/
theorem Ok11a.mine1 (h : Ok11a n t run mine q) {k : Nat} {s : Shelf} (hk : k < n) {G' : List (List Int)} (hG : G'.length ≤ 1 + (t + 1)) (hs : GS n G' s) (hsub : ∀ i, i < n → GS n G' (sh11 n q.d1 mine i)) :
    Ok11a n (t + 1) run mine { q with d1 := q.d1.set k (putS (q.d1.getD k []) mine s), d2 := q.d2.set k (putS (q.d2.getD k []) mine s) } := by
  have hk1 : k < q.d1.length := by rw [h.dl1]; exact hk
  have hk2 : k < q.d2.length := by rw [h.dl2]; exact hk
  refine h.put1 (List.mem_cons_self ..) hk hG hs hsub rfl rfl rfl rfl (by show (q.d2.set _ _).length = n; rw [List.length_set]; exact h.dl2) (fun d hd => ?_) (fun i hi => ?_)
  · rcases List.mem_or_eq_of_mem_set hd with hd | rfl
    · exact h.one d hd
    · exact (h.one _ (mem_getD hk2)).put' s
  · show sh11 n (q.d2.set k (putS (q.d2.getD k []) mine s)) mine i = sh11 n (q.d1.set k (putS (q.d1.getD k []) mine s)) mine i
    rw [sh11_set hk2, sh11_set hk1, h.same i hi]
theorem MkOk.app {lk : List (List Int)} (h : MkOk n lk) {u : List Int} (hu : u.length = n ∧ ∀ x ∈ u, 0 ≤ x) : MkOk n (lk ++ [u]) := ⟨by simp, fun v hv => by
  rcases List.mem_append.mp hv with hv | hv
  · exact h.2 v hv
  · have : v = u := by simpa using hv
    subst this
    exact hu⟩
theorem Ok11a.mineL (h : Ok11a n t run mine q) {u : List Int} (hu : u.length = n ∧ ∀ x ∈ u, 0 ≤ x) : Ok11a n (t + 1) run mine { q with l0 := q.l0 ++ [u], own := q.own ++ [u] } := { h.mono with
  own := by show q.own ++ [u] = q.l0 ++ [u]; rw [h.own]
  l0 := h.l0.app hu
  l0l := by
    show (q.l0 ++ [u]).length ≤ _
    have := h.l0l
    rw [List.length_append, List.length_singleton]; omega }
theorem Ok11a.elseL (h : Ok11a n t run mine q) {j : Nat} {p : Str × List (List Int)} (hj : q.mo[j]? = some p) {u : List Int} (hu : u.length = n ∧ ∀ x ∈ u, 0 ≤ x) : Ok11a n (t + 1) run mine { q with mo := q.mo.set j (p.1, p.2 ++ [u]) } := by
  have m := h.mono
  have ek : ({ q with mo := q.mo.set j (p.1, p.2 ++ [u]) } : Q11).ks mine = q.ks mine := by
    unfold Q11.ks
    show mine :: (q.mo.set j (p.1, p.2 ++ [u])).map (·.1) = _
    rw [mapSet_same (f := fun x : Str × List (List Int) => x.1) (b := (p.1, p.2 ++ [u])) hj rfl]
  refine ⟨m.dl1, m.dl2, m.len1, m.nd1, m.gs, m.same, m.one, m.own, m.l0, m.l0l, fun r hr => ?_, by rw [ek]; exact m.mnd, m.ml, m.ma, m.rn, fun k hk r hr => by rw [ek]; exact m.keys k hk r hr, m.rk⟩
  rcases List.mem_or_eq_of_mem_set hr with hr | rfl
  · exact m.mo r hr
  · obtain ⟨a, b, c, d⟩ := h.mo p (List.mem_of_getElem? hj)
    exact ⟨a.app hu, by rw [List.length_append, List.length_singleton]; omega, c, d⟩
theorem Ok11a.new (h : Ok11a n t run mine q) {y : Str} (hy : y ∉ q.ks mine) (ha : ascS y) (hl : y.length ≤ 110) : Ok11a n t run mine { q with mo := q.mo ++ [(y, [blankI n])] } := by
  have ek : ({ q with mo := q.mo ++ [(y, [blankI n])] } : Q11).ks mine = q.ks mine ++ [y] := by
    unfold Q11.ks
    show mine :: (q.mo ++ [(y, [blankI n])]).map (·.1) = _
    rw [List.map_append]; rfl
  refine ⟨h.dl1, h.dl2, h.len1, h.nd1, h.gs, h.same, h.one, h.own, h.l0, h.l0l, fun r hr => ?_, ?_, h.ml, h.ma, h.rn, fun k hk r hr => ?_, h.rk⟩
  · rcases List.mem_append.mp hr with hr | hr
    · exact h.mo r hr
    · have : r = (y, [blankI n]) := by simpa using hr
      subst this
      refine ⟨⟨by simp, fun u hu => ?_⟩, by show 1 ≤ 1 + t; omega, ha, hl⟩
      have : u = blankI n := by simpa using hu
      subst this
      exact ⟨blank_len n, blank_nonneg n⟩
  · rw [ek]
    exact List.nodup_append.mpr ⟨h.mnd, by simp, fun a hma b hb e => by
      have : b = y := by simpa using hb
      subst this e
      exact hy hma⟩
  · rw [ek]
    rcases h.keys k hk r hr with h1 | h1
    · exact .inl (List.mem_append_left _ h1)
    · exact .inr h1
theorem Ok11a.len (h : Ok11a n t run mine q) (ht : t ≤ 60) : ∀ d ∈ q.d1, d.length ≤ 900 := fun d hd => by
  have := h.len1 d hd
  have := h.rn
  omega
/-- the values put ahead -/
theorem Ok11a.ahead {j : Nat} (h : Ok11a n 0 j mine q) (hm : q.mo = []) (hj : j < 69) (hn : 1 ≤ n) :
    Ok11a n 0 (j + 1) mine { q with d1 := q.d1.set (j % n) (putS (q.d1.getD (j % n) []) (rk11 j) (putShelf (sh11 n q.d1 (rk11 j) (j % n)) (blankI n) (j % n) (7 * (j : Int)))) } ∧ ∀ k, k < n → sh11 n q.d1 (rk11 j) k = (blankI n, []) := by
  have hk : j % n < n := Nat.mod_lt _ (by omega)
  have hk2 : j % n < q.d1.length := by rw [h.dl1]; exact hk
  have hbl : ∀ k, k < n → sh11 n q.d1 (rk11 j) k = (blankI n, []) := fun k hk => by
    refine getS_no fun hm' => ?_
    obtain ⟨p, hp, e⟩ := List.mem_map.mp hm'
    rcases h.keys k hk p hp with h1 | ⟨i, hi, _, e2⟩
    · have := h.short h1
      have h2 := (rk11_ok (j := j) (by omega)).1
      rw [e] at this
      omega
    · have := rk11_inj (i := i) (j := j) (by omega) (by omega) (by rw [← e2, e])
      omega
  refine ⟨?_, hbl⟩
  rw [hbl _ hk]
  have hin : q.d1.getD (j % n) [] ∈ q.d1 := mem_getD hk2
  have hd : ∀ d ∈ q.d1.set (j % n) (putS (q.d1.getD (j % n) []) (rk11 j) (putShelf (blankI n, []) (blankI n) (j % n) (7 * (j : Int)))), d ∈ q.d1 ∨ d = putS (q.d1.getD (j % n) []) (rk11 j) (putShelf (blankI n, []) (blankI n) (j % n) (7 * (j : Int))) := fun d hd => List.mem_or_eq_of_mem_set hd
  have hnm : ∀ y ∈ q.ks mine, y ≠ rk11 j := fun y hy e => by
    have := h.short hy
    have h2 := (rk11_ok (j := j) (by omega)).1
    rw [e] at this
    omega
  refine ⟨by show (q.d1.set _ _).length = n; rw [List.length_set]; exact h.dl1, h.dl2, fun d hdd => ?_, fun d hdd => ?_, fun y' => ?_, fun i hi => ?_, h.one, h.own, h.l0, h.l0l, h.mo, h.mnd, h.ml, h.ma, by omega, fun i hi p hp => ?_, fun i hi => ?_⟩
  · rcases hd d hdd with hdd | rfl
    · have := h.len1 d hdd; omega
    · have a := putS_len (q.d1.getD (j % n) []) (rk11 j) (putShelf (blankI n, []) (blankI n) (j % n) (7 * (j : Int)))
      have b := h.len1 _ hin
      omega
  · rcases hd d hdd with hdd | rfl
    · exact h.nd1 d hdd
    · exact putS_nd _ _ (h.nd1 _ hin)
  · by_cases e : y' = rk11 j
    · subst e
      refine ⟨[[((j % n : Nat) : Int), (blankI n, ([] : List (List Int))).1.getD (j % n) 0 + 1, 7 * (j : Int)]], by simp, fun i hi => ?_⟩
      · show GS n ([] ++ [[((j % n : Nat) : Int), (blankI n, ([] : List (List Int))).1.getD (j % n) 0 + 1, 7 * (j : Int)]]) (sh11 n (q.d1.set (j % n) _) (rk11 j) i)
        rw [sh11_set hk2]
        split
        · exact (GS.blank n []).put (blank_len n) hk
        · rw [hbl i hi]
          exact GS.blank n _
    · obtain ⟨G, g1, g2⟩ := h.gs y'
      refine ⟨G, g1, fun i hi => ?_⟩
      show GS n G (sh11 n (q.d1.set (j % n) _) y' i)
      rw [sh11_set hk2, if_neg (fun z => e z.2)]
      exact g2 i hi
  · show sh11 n q.d2 mine i = sh11 n (q.d1.set (j % n) _) mine i
    rw [sh11_set hk2, if_neg (fun z => hnm mine (List.mem_cons_self ..) z.2)]
    exact h.same i hi
  · have hp' : p ∈ (q.d1.set (j % n) (putS (q.d1.getD (j % n) []) (rk11 j) (putShelf (blankI n, []) (blankI n) (j % n) (7 * (j : Int))))).getD i [] := hp
    rw [getD_set hk2] at hp'
    have old : ∀ p ∈ q.d1.getD i [], p.1 ∈ q.ks mine ∨ ∃ j', j' < j + 1 ∧ j' % n = i ∧ p.1 = rk11 j' := fun p hp => by
      rcases h.keys i hi p hp with h1 | ⟨j', a, b, c⟩
      · exact .inl h1
      · exact .inr ⟨j', by omega, b, c⟩
    split at hp'
    · rename_i e
      subst e
      rcases putS_mem hp' with e | hp'
      · exact .inr ⟨j, by omega, rfl, e⟩
      · exact old p hp'
    · exact old p hp'
  · show valsI (sh11 n (q.d1.set (j % n) _) (rk11 i) (i % n)).2 = _
    rw [sh11_set hk2]
    by_cases e : i = j
    · subst e
      rw [if_pos ⟨rfl, rfl⟩]
      show valsI (sortI (([] : List (List Int)).filter _ ++ [[((i % n : Nat) : Int), (blankI n).getD (i % n) 0 + 1, 7 * (i : Int)]])) = _
      have : sortI ([[((i % n : Nat) : Int), (blankI n).getD (i % n) 0 + 1, 7 * (i : Int)]]) = [[((i % n : Nat) : Int), (blankI n).getD (i % n) 0 + 1, 7 * (i : Int)]] := sortI_of_asc (List.pairwise_singleton _ _)
      rw [List.filter_nil, List.nil_append, this]; rfl
    · rw [if_neg (fun z => e (rk11_inj (by omega) (by omega) z.2))]
      exact h.rk i (by omega)
end
end KS
set_option maxHeartbeats 400000
namespace KS
open PySem PySem.Spec PyProof.Rows L2 DL
section
variable {Cl : Addr} {M0 : Mem} {n t run : Nat} {mine : Str} {q : Q11}
theorem eff11_some (M : Mem) (is : List Nat) (dc : List Dct) (key : Str) (p : Nat) (lk : List (List Int)) (m : List Int) (k : Nat) (s : Shelf) : eff11 M is dc key p lk m (some (k, s)) = M.set (is.getD k 0) (.dK (dcD (putS (dc.getD k []) key s))) := rfl
theorem eff11_none (M : Mem) (is : List Nat) (dc : List Dct) (key : Str) (p : Nat) (lk : List (List Int)) (m : List Int) : eff11 M is dc key p lk m none = M.set p (.lst (lk.map tupI ++ [tupI m])) := rfl
theorem isOf_getD {b n k : Nat} (h : k < n) : (isOf b n).getD k 0 = b + 1 + k := by
  rw [List.getD_eq_getElem?_getD, isOf_at h]; rfl
theorem mem11_at1 (h1 : q.d1.length = n) {k : Nat} (hk : k < n) : At Cl (mem11 Cl M0 n mine q) M0.length k (M0.length + 1 + k) n (isOf M0.length n) q.d1 (q.d1.getD k []) := by
  rw [mem11_one h1]; exact memS_at h1 hk
theorem mem11_at2 (h1 : q.d1.length = n) (h2 : q.d2.length = n) {k : Nat} (hk : k < n) : At Cl (mem11 Cl M0 n mine q) (M0.length + 1 + n) k (M0.length + 1 + n + 1 + k) n (isOf (M0.length + 1 + n) n) q.d2 (q.d2.getD k []) := by
  have := memS_at (Cl := Cl) (M0 := memS Cl M0 n q.d1 []) (T := T11 mine (B11 M0 n) q) h2 hk
  rw [in11_len h1] at this
  exact this
theorem looks11_fst (B : Nat) (mo : List (Str × List (List Int))) : (looks11 mine B mo).map (·.1) = (mine :: mo.map (·.1)).map Sum.inr := by
  unfold looks11
  rw [List.map_cons, List.map_cons]
  congr 1
  apply List.ext_getElem?
  intro i
  rw [List.getElem?_map, List.getElem?_mapIdx, List.getElem?_map, List.getElem?_map]
  cases mo[i]? <;> rfl
theorem looks11_keys (B : Nat) (q : Q11) : (looks11 mine B q.mo).map (fun kv => keyD kv.1) = (q.ks mine).map fun y => D.v (.str y) := by
  have e : (looks11 mine B q.mo).map (fun kv => keyD kv.1) = ((looks11 mine B q.mo).map (·.1)).map keyD := by rw [List.map_map]; rfl
  rw [e, looks11_fst, List.map_map]; rfl
theorem looks11_nd (B : Nat) (h : (q.ks mine).Nodup) : ((looks11 mine B q.mo).map (·.1)).Nodup := by
  rw [looks11_fst]
  exact List.pairwise_map.mpr (h.imp fun {a b} hne e => hne (inr_eq.mp e))
theorem looks11_len (B : Nat) (mo : List (Str × List (List Int))) : (looks11 mine B mo).length = mo.length + 1 := by
  unfold looks11
  rw [List.length_cons, List.length_mapIdx]
theorem looks11_mine (B : Nat) (mo : List (Str × List (List Int))) : valD (looks11 mine B mo) (.inr mine) = some (.res (B + 1)) := by
  unfold looks11 valD
  rw [List.find?_cons_of_pos (by simp)]; rfl
theorem looks11_at (B : Nat) (h : (q.ks mine).Nodup) {j : Nat} {p : Str × List (List Int)} (hj : q.mo[j]? = some p) : valD (looks11 mine B q.mo) (.inr p.1) = some (.res (B + 3 + j)) := by
  refine valD_at (j := j + 1) (looks11_nd B h) ?_
  unfold looks11
  rw [List.getElem?_cons_succ, List.getElem?_mapIdx, hj]; rfl
theorem looks11_no (B : Nat) {y : Str} (h : y ∉ q.ks mine) (v : D) : valD (looks11 mine B q.mo) (.inr y) = none ∧ putD (looks11 mine B q.mo) (.inr y) v = looks11 mine B q.mo ++ [(.inr y, v)] := by
  refine valD_no (fun hm => h ?_) v
  rw [looks11_fst] at hm
  obtain ⟨z, hz, e⟩ := List.mem_map.mp hm
  rw [← inr_eq.mp e]
  exact hz
theorem Ok11a.markOk (h : Ok11a n t run mine q) (y : Str) {k : Nat} (hk : k < n) : (sh11 n q.d1 y k).1.length = n ∧ ∀ x ∈ (sh11 n q.d1 y k).1, 0 ≤ x := by
  obtain ⟨G, _, g⟩ := h.gs y
  exact ⟨(g k hk).len, (g k hk).mem⟩
theorem Ok11a.good (h : Ok11a n t run mine q) (ht : t ≤ 60) (y : Str) {k : Nat} (hk : k < n) : GoodS n (sh11 n q.d1 y k) := by
  obtain ⟨G, g1, g2⟩ := h.gs y
  exact (g2 k hk).good (by omega)
/-- a deed at another key -/
theorem deed11_else (h : Ok11a n t run mine q) (hn : 1 ≤ n) {j : Nat} {p : Str × List (List Int)} (hj : q.mo[j]? = some p) (hne : p.1 ≠ mine) (c z : Int) :
    ∃ q', eff11 (mem11 Cl M0 n mine q) (isOf M0.length n) q.d1 p.1 (B11 M0 n + 3 + j) p.2 (sh11 n q.d1 p.1 (kp10 n c)).1 (deed11 n (sh11 n q.d1 p.1) p.2 c z) = mem11 Cl M0 n mine q' ∧ Ok11a n (t + 1) run mine q' ∧ q'.mo.length = q.mo.length := by
  have hin : p ∈ q.mo := List.mem_of_getElem? hj
  obtain ⟨a, b, _, _⟩ := h.mo p hin
  obtain ⟨G, g1, g2⟩ := h.gs p.1
  obtain ⟨G', g3, g4, g5⟩ := deed11_ok g2 a hn c z
  have hy : p.1 ∈ q.ks mine := List.mem_cons_of_mem _ (List.mem_map.mpr ⟨p, hin, rfl⟩)
  cases e : deed11 n (sh11 n q.d1 p.1) p.2 c z with
  | none =>
    refine ⟨_, ?_, h.elseL hj (h.markOk p.1 (kp10_lt hn c).1), by show (q.mo.set _ _).length = _; rw [List.length_set]⟩
    rw [eff11_none, mem11_mos h.dl1 h.dl2 hj]
  | some ks =>
    obtain ⟨k, s⟩ := ks
    obtain ⟨hk, gs⟩ := g5 k s e
    refine ⟨_, ?_, h.else1 hy hne hk (G' := G') (by omega) gs (fun i hi => (g2 i hi).mono g4), rfl⟩
    rw [eff11_some, isOf_getD hk, mem11_d1 h.dl1 hk]
/-- a deed at the key, in the one store and in the other -/
theorem deed11_mine (h : Ok11a n t run mine q) (hn : 1 ≤ n) (c z : Int) :
    ∃ q1, eff11 (mem11 Cl M0 n mine q) (isOf M0.length n) q.d1 mine (B11 M0 n + 1) q.l0 (sh11 n q.d1 mine (kp10 n c)).1 (deed11 n (sh11 n q.d1 mine) q.l0 c z) = mem11 Cl M0 n mine q1 ∧ q1.d1.length = n ∧ q1.d2 = q.d2 ∧ q1.own = q.own ∧
      ∃ q2, eff11 (mem11 Cl M0 n mine q1) (isOf (M0.length + 1 + n) n) q.d2 mine (B11 M0 n + 2) q.own (sh11 n q.d2 mine (kp10 n c)).1 (deed11 n (sh11 n q.d2 mine) q.own c z) = mem11 Cl M0 n mine q2 ∧ Ok11a n (t + 1) run mine q2 ∧ q2.mo = q.mo := by
  obtain ⟨G, g1, g2⟩ := h.gs mine
  obtain ⟨G', g3, g4, g5⟩ := deed11_ok g2 h.l0 hn c z
  have hkp := (kp10_lt hn c).1
  have e2 : deed11 n (sh11 n q.d2 mine) q.own c z = deed11 n (sh11 n q.d1 mine) q.l0 c z := by
    rw [h.own]
    exact deed11_congr h.same hn _ _ _
  rw [e2, h.same _ hkp]
  cases e : deed11 n (sh11 n q.d1 mine) q.l0 c z with
  | none =>
    refine ⟨{ q with l0 := q.l0 ++ [(sh11 n q.d1 mine (kp10 n c)).1] }, ?_, h.dl1, rfl, rfl, _, ?_, h.mineL (h.markOk mine hkp), rfl⟩
    · rw [eff11_none, mem11_l0s h.dl1 h.dl2]
    · rw [eff11_none]
      exact mem11_owns (q := { q with l0 := q.l0 ++ [(sh11 n q.d1 mine (kp10 n c)).1] }) h.dl1 h.dl2 _
  | some ks =>
    obtain ⟨k, s⟩ := ks
    obtain ⟨hk, gs⟩ := g5 k s e
    have hl1 : ({ q with d1 := q.d1.set k (putS (q.d1.getD k []) mine s) } : Q11).d1.length = n := by show (q.d1.set _ _).length = n; rw [List.length_set]; exact h.dl1
    refine ⟨{ q with d1 := q.d1.set k (putS (q.d1.getD k []) mine s) }, ?_, hl1, rfl, rfl, _, ?_, h.mine1 hk (G' := G') (by omega) gs (fun i hi => (g2 i hi).mono g4), rfl⟩
    · rw [eff11_some, isOf_getD hk, mem11_d1 h.dl1 hk]
    · rw [eff11_some, isOf_getD hk]
      exact mem11_d2 (q := { q with d1 := q.d1.set k (putS (q.d1.getD k []) mine s) }) hl1 h.dl2 hk _
/-! ### the keys -/
def there11 (n : Nat) (q : Q11) (mine : Str) (k : Nat) : List Str := (sortS (q.ks mine)).filter fun y => !decide (valsI (sh11 n q.d1 y k).2 = [])
def more11 (n run k : Nat) : List Str := ((List.range run).filter fun (j : Nat) => decide ((j : Int) % (n : Int) = (k : Int))).map rk11
theorem vals_nil (L : List (List Int)) : valsI L = [] ↔ L = [] := by
  unfold valsI
  exact List.map_eq_nil_iff
theorem keysOf_mem {d : Dct} (hn : (d.map (·.1)).Nodup) (n : Nat) (y : Str) : y ∈ (d.filter fun p => !p.2.2.isEmpty).map (·.1) ↔ (getS n d y).2 ≠ [] := by
  constructor
  · intro h
    obtain ⟨p, hp, rfl⟩ := List.mem_map.mp h
    obtain ⟨hp, hb⟩ := List.mem_filter.mp hp
    rw [getS_mem hn hp]
    intro e
    rw [e] at hb
    cases hb
  · intro h
    by_cases hm : y ∈ d.map (·.1)
    · obtain ⟨p, hp, rfl⟩ := List.mem_map.mp hm
      refine List.mem_map.mpr ⟨p, List.mem_filter.mpr ⟨hp, ?_⟩, rfl⟩
      rw [getS_mem hn hp] at h
      cases hq : p.2.2 with
      | nil => exact absurd hq h
      | cons a l => rfl
    · rw [getS_no hm] at h
      exact absurd rfl h
theorem keysOf_nd {d : Dct} (hn : (d.map (·.1)).Nodup) : ((d.filter fun p => !p.2.2.isEmpty).map (·.1)).Nodup := List.Nodup.sublist (List.Sublist.map _ (List.filter_sublist ..)) hn
theorem there11_mem {k : Nat} {y : Str} : y ∈ there11 n q mine k ↔ y ∈ q.ks mine ∧ (sh11 n q.d1 y k).2 ≠ [] := by
  unfold there11
  rw [List.mem_filter, (sortS_perm _).mem_iff, Bool.not_eq_true', decide_eq_false_iff_not, vals_nil]
theorem more11_mem {k : Nat} {y : Str} : y ∈ more11 n run k ↔ ∃ j, j < run ∧ j % n = k ∧ y = rk11 j := by
  unfold more11
  rw [List.mem_map]
  constructor
  · rintro ⟨j, hj, rfl⟩
    obtain ⟨h1, h2⟩ := List.mem_filter.mp hj
    have h3 := of_decide_eq_true h2
    exact ⟨j, List.mem_range.mp h1, by omega, rfl⟩
  · rintro ⟨j, h1, h2, rfl⟩
    exact ⟨j, List.mem_filter.mpr ⟨List.mem_range.mpr h1, decide_eq_true (by omega)⟩, rfl⟩
theorem there11_nd (h : Ok11a n t run mine q) (k : Nat) : (there11 n q mine k).Nodup := List.Nodup.sublist (List.filter_sublist ..) ((sortS_perm _).nodup_iff.mpr h.mnd)
theorem more11_nd (h : run ≤ 69) (k : Nat) : (more11 n run k).Nodup := by
  unfold more11
  have : ((List.range run).filter fun (j : Nat) => decide ((j : Int) % (n : Int) = (k : Int))).Nodup := List.Nodup.sublist (List.filter_sublist ..) List.nodup_range
  refine List.pairwise_map.mpr (List.Pairwise.imp_of_mem (fun {a b} ha hb hne e => ?_) this)
  have h1 := List.mem_range.mp (List.mem_filter.mp ha).1
  have h2 := List.mem_range.mp (List.mem_filter.mp hb).1
  exact hne (rk11_inj (by omega) (by omega) e)
theorem keys11_one (h : Ok11a n t run mine q) {k : Nat} (hk : k < n) : sortS (((q.d1.getD k []).filter fun p => !p.2.2.isEmpty).map (·.1)) = sortS (there11 n q mine k ++ more11 n run k) := by
  have hd : q.d1.getD k [] ∈ q.d1 := mem_getD (by rw [h.dl1]; exact hk)
  have hnd := h.nd1 _ hd
  refine sortS_congr ((List.perm_ext_iff_of_nodup (keysOf_nd hnd) ?_).mpr fun y => ?_)
  · refine List.nodup_append.mpr ⟨there11_nd h k, more11_nd h.rn k, fun a ha b hb e => ?_⟩
    obtain ⟨j, h1, _, e2⟩ := more11_mem.mp hb
    exact h.nrk (there11_mem.mp ha).1 h1 (by rw [e, e2])
  · rw [keysOf_mem hnd n, List.mem_append, there11_mem, more11_mem]
    constructor
    · intro hy
      by_cases hm : y ∈ (q.d1.getD k []).map (·.1)
      · obtain ⟨p, hp, rfl⟩ := List.mem_map.mp hm
        rcases h.keys k hk p hp with h1 | ⟨j, a, b, c⟩
        · exact .inl ⟨h1, hy⟩
        · exact .inr ⟨j, a, b, c⟩
      · rw [getS_no hm] at hy
        exact absurd rfl hy
    · rintro (⟨_, hy⟩ | ⟨j, a, b, rfl⟩)
      · exact hy
      · intro e
        have := h.rk j a
        rw [b] at this
        have e' : (sh11 n q.d1 (rk11 j) k).2 = [] := e
        rw [e'] at this
        cases this
theorem keys11_two (h : Ok11a n t run mine q) {k : Nat} (hk : k < n) : sortS (((q.d2.getD k []).filter fun p => !p.2.2.isEmpty).map (·.1)) = (there11 n q mine k).filter fun y => decide (V.str y = V.str mine) := by
  have hd : q.d2.getD k [] ∈ q.d2 := mem_getD (by rw [h.dl2]; exact hk)
  have ho := h.one _ hd
  have hnd : ((q.d2.getD k []).map (·.1)).Nodup := by
    rcases ho with e | ⟨s, e⟩
    · rw [e]; exact List.Pairwise.nil
    · rw [e]; exact List.pairwise_singleton _ _
  have hp : (((q.d2.getD k []).filter fun p => !p.2.2.isEmpty).map (·.1)).Perm ((there11 n q mine k).filter fun y => decide (V.str y = V.str mine)) := by
    refine (List.perm_ext_iff_of_nodup (keysOf_nd hnd) (List.Nodup.sublist (List.filter_sublist ..) (there11_nd h k))).mpr fun y => ?_
    rw [keysOf_mem hnd n, List.mem_filter, there11_mem, decide_eq_true_eq]
    have hsame := h.same k hk
    constructor
    · intro hy
      have hm : y = mine := by
        by_cases e : y = mine
        · exact e
        · rcases ho with e2 | ⟨s, e2⟩
          · rw [e2] at hy
            exact absurd rfl hy
          · rw [e2] at hy
            rw [getS_no (by simpa using e)] at hy
            exact absurd rfl hy
      subst hm
      refine ⟨⟨List.mem_cons_self .., ?_⟩, rfl⟩
      rw [← hsame]
      exact hy
    · rintro ⟨⟨_, hy⟩, e⟩
      have e' : y = mine := V.str.inj e
      subst e'
      rw [← hsame] at hy
      exact hy
  have hs := sortS_asc (q.ks mine)
  exact (sortS_eq (List.Pairwise.sublist ((List.filter_sublist ..).trans (List.filter_sublist ..)) hs) hp.symm).symm
theorem pl_strs {m : Nat} {xs : List Str} (h : ∀ x ∈ xs, ascS x) : plD (m + 1) (.lst (xs.map fun x => .v (.str x))) := .lst (.maps fun x hx => .str (h x hx).ok)
theorem there11_asc (h : Ok11a n t run mine q) (k : Nat) : ∀ y ∈ there11 n q mine k, ascS y := fun y hy => h.asc (there11_mem.mp hy).1
theorem more11_asc (h : run ≤ 69) (k : Nat) : ∀ y ∈ more11 n run k, ascS y := fun y hy => by
  obtain ⟨j, a, _, rfl⟩ := more11_mem.mp hy
  exact (rk11_ok (by omega)).2.2
theorem both11_asc (h : Ok11a n t run mine q) (k : Nat) : ∀ y ∈ sortS (there11 n q mine k ++ more11 n run k), ascS y := fun y hy => by
  rcases List.mem_append.mp ((sortS_perm _).mem_iff.mp hy) with hy | hy
  · exact there11_asc h k y hy
  · exact more11_asc h.rn k y hy
end
end KS
namespace KS
open PySem PySem.Spec PyProof.Rows L2 DL
theorem log_ok : ∀ m, m < 70 → ((m : Nat) : Int).natAbs.log2 < 1920 := by decide
end KS
set_option maxHeartbeats 400000
namespace DL
open PySem PySem.Spec PyProof.Rows L2
section
variable {C : Ctx} {S S1 S2 : DS} {M M1 M2 M3 M' : Mem} {tg a b c e o v k ix value : Expr} {es : List Expr} {body : List Stmt} {ds : List D} {d d' dd dv da : D} {pos p2 cpos apos p' : Pos} {x z : Str} {n : Nat}
/-! ### while: n turns -/
theorem sd_while (n : Nat) (Ss : Nat → DS) (h0 : Ss 0 = S) (hs : ∀ i, i < n → TD C (Ss i) M c true M ∧ SDs C (Ss i) M body (.nx (Ss (i + 1)) M)) (he : TD C (Ss n) M c false M) : SD C S M (.While c body [] pos) (.nx (Ss n) M) :=
  SD.of (t := fun W => tWhile (wT C c) (wSs C W body)) (fun W X hX ow => by
      have po := ow.po
      cases hX with | mk p s0 H0 outer stack ex pn xe hpn => exact ps_while po (pt_w (.mk p s0 H0 outer stack ex pn xe hpn)) (pss_w (.mk p s0 H0 outer stack ex pn xe hpn) ow)) fun W E w σ H hsat hr q => by
    refine ⟨fun m σ2 H2 => ∃ i, m = n - i ∧ i ≤ n ∧ ∃ w2, Go w H w2 H2 ∧ SatM C.K w2 H2 M ∧ RepS C.K w2 (Ss i) σ2, ⟨_, 0, rfl, Nat.zero_le _, w, .refl w, hsat, h0 ▸ hr⟩, ?_⟩
    rintro m σ2 H2 ⟨i, rfl, hi, w2, l2, s2, r2⟩
    by_cases hlt : i < n
    · obtain ⟨ht, hb⟩ := hs i hlt
      refine ht w2 σ2 H2 s2 r2 _ fun w3 H3 l3 s3 => ?_
      rw [if_pos rfl]
      refine ⟨fun σ4 H4 => ∃ w4, Go w H w4 H4 ∧ SatM C.K w4 H4 M ∧ RepS C.K w4 (Ss (i + 1)) σ4, fun σ4 H4 ⟨w4, l4, s4, r4⟩ => ⟨n - (i + 1), by omega, i + 1, rfl, by omega, w4, l4, s4, r4⟩, ?_⟩
      exact hb W _ w3 σ2 H3 s3 (r2.go l3) fun w4 H4 σ4 l4 s4 r4 => ⟨w4, (l2.trans l3).trans l4, s4, r4⟩
    · have e : i = n := by omega
      subst e
      refine he w2 σ2 H2 s2 r2 _ fun w3 H3 l3 s3 => ?_
      rw [if_neg (by simp)]
      exact q w3 H3 σ2 (l2.trans l3) s3 (r2.go l3)
/-! ### methods of texts, of one argument -/
theorem ed_m1 {id : String} {name : Str} {r : V → List V → Hp → VK → Prop} (slot : Slot "str" name id) (ty : typeOf (.builtin id) = pure (.type "method_descriptor")) (rule : ∀ X, C.Has X → MtR X id r) (h1 : ED C S M a (.v (.str z)) M1) (h2 : ED C S M1 e d M2)
    (hr : ∀ w H y, SatM C.K w H M2 → Rep C.K w d y → ∀ Q : VK, (∀ w' H' x, Go w H w' H' → SatM C.K w' H' M' → Rep C.K w' d' x → Q x H') → r (.str z) [y] H Q)
    (hs : ∀ p, starEach [e] (C.env p) = [(false, eval e (C.env p))] := by intro _; rfl) (hbase : ∀ p, attributeBase a name (C.env p) (eval a (C.env p)) = eval a (C.env p) := by intro _; rfl) (hline : (apos.endLine == pos.line) = true := by rfl) :
    ED C S M (.Call (.Attribute a name apos) [e] [] pos) d' M' :=
  ED.of (t := tM1 r (wE C a) (wE C e)) (fun X hX => by
    have z0 : MtR X id r → starEach [e] X.env = [(false, eval e X.env)] → attributeBase a name X.env (eval a X.env) = eval a X.env → PE X (.Call (.Attribute a name apos) [e] [] pos) (tM1 r (wE C a) (wE C e)) := fun hr hs hb => pe_m1 slot ty hr (pe_w hX) (pe_w hX) hs hb hline
    have z1 := rule X hX
    cases hX with | mk p => exact z0 z1 (hs p) (hbase p)) fun w σ H hsat hp Q q => h1 w σ H hsat hp _ fun w1 H1 x l1 s1 r1 => by
      rw [rep_v] at r1
      subst r1
      exact ⟨⟨z, rfl⟩, h2 w1 σ H1 s1 (hp.go l1) _ fun w2 H2 y l2 s2 r2 => hr w2 H2 y s2 r2 Q fun w3 H3 x l3 s3 r3 => q w3 H3 x ((l1.trans l2).trans l3) s3 r3⟩
theorem strs_v (ys : List Str) : (ys.map fun x => D.v (.str x)) = (ys.map V.str).map D.v := by rw [List.map_map]; rfl
theorem ed_join {ys : List Str} (h1 : ED C S M a (.v (.str z)) M1) (h2 : ED C S M1 e d M2) (hv : LV M2 d (ys.map fun x => .v (.str x))) (hl : (ys.map (·.length)).sum + ys.length * z.length ≤ 16777216) (hs : ∀ p, starEach [e] (C.env p) = [(false, eval e (C.env p))] := by intro _; rfl)
    (hbase : ∀ p, attributeBase a "join" (C.env p) (eval a (C.env p)) = eval a (C.env p) := by intro _; rfl) (hline : (apos.endLine == pos.line) = true := by rfl) : ED C S M (.Call (.Attribute a "join" apos) [e] [] pos) (.v (.str (Txt.join z ys))) M2 :=
  ed_m1 F.slot_str_join F.type_str_join (r := fun x xs H Q => ∃ a p, ∃ ys : List Str, x = .str a ∧ xs = [.ref p] ∧ (SqL C.K H p (ys.map V.str) ∨ SqT C.K H p (ys.map V.str)) ∧ (ys.map (·.length)).sum + ys.length * a.length ≤ 16777216 ∧ Q (.str (Txt.join a ys)) H) (fun X hX => by
    have z0 := mt_join (X := X)
    cases hX with | mk p => exact z0) h1 h2 (fun w H y s r Q q => by
      obtain ⟨p, vs, rfl, st, rs⟩ := s.lv hv r
      rw [strs_v, reps_vs] at rs
      subst rs
      exact ⟨z, p, ys, rfl, rfl, .inl st, hl, q w H _ (.refl w) s rep_v'⟩) hs hbase hline
theorem ed_split (h1 : ED C S M a (.v (.str z)) M1) (h2 : ED C S M1 e (.v (.str x)) M2) (hx : (x.length == 0) = false) (hz : z.length ≤ 99998) (hs : ∀ p, starEach [e] (C.env p) = [(false, eval e (C.env p))] := by intro _; rfl)
    (hbase : ∀ p, attributeBase a "split" (C.env p) (eval a (C.env p)) = eval a (C.env p) := by intro _; rfl) (hline : (apos.endLine == pos.line) = true := by rfl) : ED C S M (.Call (.Attribute a "split" apos) [e] [] pos) (.lst ((Txt.split z x).map fun y => .v (.str y))) M2 :=
  ed_m1 F.slot_str_split F.type_str_split (r := fun x xs H Q => ∃ a b, x = .str a ∧ xs = [.str b] ∧ (b.length == 0) = false ∧ a.length + 2 ≤ sizeLine ∧ rNewStrs (Txt.split a b) H Q) (fun X hX => mt_split) h1 h2 (fun w H y s r Q q => by
      rw [rep_v] at r
      subst r
      refine ⟨z, x, rfl, rfl, hx, Nat.le_trans (by omega : z.length + 2 ≤ 100000) (by decide), fun p hp => ?_⟩
      obtain ⟨g, s4, r4⟩ := s.put_lst (ds := (Txt.split z x).map fun y => .v (.str y)) (ys := (Txt.split z x).map V.str) (by rw [strs_v, reps_vs]) hp
      exact q _ _ _ g s4 r4) hs hbase hline
theorem ed_splitR (h1 : ED C S M a (.v (.str z)) M1) (h2 : ED C S M1 e (.v (.str x)) M2) (hx : (x.length == 0) = false) (hz : z.length ≤ 99998) (hs : ∀ p, starEach [e] (C.env p) = [(false, eval e (C.env p))] := by intro _; rfl)
    (hbase : ∀ p, attributeBase a "split" (C.env p) (eval a (C.env p)) = eval a (C.env p) := by intro _; rfl) (hline : (apos.endLine == pos.line) = true := by rfl) : ED C S M (.Call (.Attribute a "split" apos) [e] [] pos) (.res M2.length) (M2 ++ [.lst ((Txt.split z x).map fun y => .v (.str y))]) :=
  ed_m1 F.slot_str_split F.type_str_split (r := fun x xs H Q => ∃ a b, x = .str a ∧ xs = [.str b] ∧ (b.length == 0) = false ∧ a.length + 2 ≤ sizeLine ∧ rNewStrs (Txt.split a b) H Q) (fun X hX => mt_split) h1 h2 (fun w H y s r Q q => by
      rw [rep_v] at r
      subst r
      refine ⟨z, x, rfl, rfl, hx, Nat.le_trans (by omega : z.length + 2 ≤ 100000) (by decide), fun p hp => ?_⟩
      obtain ⟨g, s4, r4⟩ := s.put_res (mo := .lst ((Txt.split z x).map fun y => .v (.str y))) (o := .lst ((Txt.split z x).map V.str)) ⟨_, rfl, by rw [strs_v, reps_vs]⟩ hp
      exact q _ _ _ g s4 r4) hs hbase hline
theorem ed_find (h1 : ED C S M a (.v (.str z)) M1) (h2 : ED C S M1 e (.v (.str x)) M2) (hs : ∀ p, starEach [e] (C.env p) = [(false, eval e (C.env p))] := by intro _; rfl)
    (hbase : ∀ p, attributeBase a "find" (C.env p) (eval a (C.env p)) = eval a (C.env p) := by intro _; rfl) (hline : (apos.endLine == pos.line) = true := by rfl) : ED C S M (.Call (.Attribute a "find" apos) [e] [] pos) (dInt (Txt.find z x)) M2 :=
  ed_m1 F.slot_str_find F.type_str_find (r := fun x xs H Q => ∃ a b, x = .str a ∧ xs = [.str b] ∧ Q (.int (Txt.find a b)) H) (fun X hX => mt_find) h1 h2 (fun w H y s r Q q => by
      rw [rep_v] at r
      subst r
      exact ⟨z, x, rfl, rfl, q w H _ (.refl w) s rep_v'⟩) hs hbase hline
/-! ### the signs of a text, one after another -/
def sgD (x : Str) : List D := x.cps.toList.map fun c => .v (.str ⟨#[c]⟩)
theorem id_str (h : ED C S M e (.v (.str x)) M') : ID C S M tg e (sgD x) PAny M' := fun w σ H hs hp R q => ⟨iStr (wE C e), fun X hX => by
  have z : PI X tg e (iStr (wE C e)) := pi_str (pe_w hX)
  cases hX with | mk p => exact z, h w σ H hs hp _ fun w1 H1 y l s r => by
    rw [rep_v] at r
    refine ⟨x, r, q w1 H1 _ l s fun i w2 H2 M2 l2 s2 _ => ⟨fun hi => ?_, fun d hd => ?_⟩⟩
    · show x.cps.size ≤ i
      unfold sgD at hi
      rw [List.length_map] at hi
      simpa using hi
    · unfold sgD at hd
      rw [List.getElem?_map] at hd
      cases hc : x.cps.toList[i]? with
      | none => rw [hc] at hd; cases hd
      | some c =>
        rw [hc] at hd
        have hd' : D.v (.str ⟨#[c]⟩) = d := by simpa using hd
        subst hd'
        have hc' : x.cps[i]? = some c := by simpa using hc
        refine ⟨(Array.getElem?_eq_some_iff.mp hc').1, fun y H3 hy => ?_⟩
        obtain ⟨rfl, c', e', rfl⟩ := hy
        rw [hc'] at e'
        cases e'
        exact ⟨w2, .refl w2, s2, rep_v'⟩⟩
/-! ### int of a text, a sign in a text, a module's text -/
theorem ed_intT {i : Int} (h : ED C S M e (.v (.str x)) M1) (hi : intText? x = some i) (hl : x.length ≤ 640) (hm : C.mg "int" = none) (hg : ∀ p, (C.env p).kindOf "int" = some .globalImplicit := by intro _; rfl) (he : ∀ p, starEach [e] (C.env p) = (false, eval e (C.env p)) :: starEach [] (C.env p) := by intro _; rfl) :
    ED C S M (.Call (.Name "int" p2) [e] [] pos) (dInt i) M1 := ed_callTy (fun _ _ => call_int_str) (ad_cons h ad_nil he) (fun w H xs hs r Q q => by
      obtain ⟨y, rfl, r1⟩ := reps_one r
      rw [rep_v] at r1
      exact ⟨x, i, by rw [r1], hi, hl, q w H _ (.refl w) hs rep_v'⟩) hm boot_int hg (by decide) (by decide) he
theorem ed_inSg {s : Nat} (h1 : ED C S M a (.v (.str ⟨#[s]⟩)) M1) (h2 : ED C S M1 b (.v (.str z)) M2) (hm : behindInMarks .In b = false := by with_unfolding_all rfl) : ED C S M (.Compare a [.In] [b] pos) (.v (.bl (decide (s ∈ z.cps.toList)))) M2 :=
  ed_cmpR (r := rInS) (fun X hX => op_inS) h1 h2 (fun w H x y hs hx hy Q q => by
    rw [rep_v] at hx hy
    exact ⟨s, z, hx, hy, q w H _ (.refl w) hs rep_v'⟩) hm
theorem ed_globS {y : Str} {t : Tok} (hm : C.mg y = some (.str x t)) (hg : ∀ p, (C.env p).kindOf y = some .globalImplicit := by intro _; rfl) (hd : (y == ("__debug__" : Str)) = false := by decide) : ED C S M (.Name y pos) (.v (.str x)) M := ed_glob (v := .str x) hm ⟨t, rfl⟩ hg hd
end
end DL
namespace DL
open PySem PySem.Spec PyProof.Rows L2
section
variable {C : Ctx} {S : DS} {M M1 M2 : Mem} {tg e : Expr} {body : List Stmt} {items : List D} {dr : D} {pos : Pos} {PM : Mem → Prop}
/-! ### for, which ends by a return at turn j -/
theorem sd_forRt (hi : ID C S M tg e items PM M1) (hc : C.calm = true) (Ss : Nat → DS) (j : Nat) (hj : j < items.length) (hS : Ss 0 = S) (hpm : PM M1)
    (hs : ∀ i d, i < j → items[i]? = some d → ∃ S1 vs S2, GD C (Ss i) tg d S1 vs ∧ SDs C S1 M1 body (.nx S2 M1) ∧ Ge S2 (Ss (i + 1)))
    (hl : ∀ d, items[j]? = some d → ∃ S1 vs, GD C (Ss j) tg d S1 vs ∧ SDs C S1 M1 body (.rt dr M2)) (hf : ∀ p, ∀ x, foldedSetIterable e (C.env p) x = pure x := by intro _ _; rfl) : SD C S M (.For tg e body [] pos) (.rt dr M2) :=
  SD.of (t := fun W => tFor (wI C tg e) (wG C tg) (wSs C W body)) (fun W X hX ow => by
      have po := ow.po
      cases hX with | mk p s0 H0 outer stack ex pn xe hpn => exact ps_for po hc (pi_w (.mk p s0 H0 outer stack ex pn xe hpn)) (pg_w (.mk p s0 H0 outer stack ex pn xe hpn)) (pss_w (.mk p s0 H0 outer stack ex pn xe hpn) ow) (hf p)) fun W E w σ H hsat hr q =>
    hi w σ H hsat hr _ fun w1 H1 J l1 s1 hJ => by
      refine ⟨fun i m σ2 H2 => m = items.length - i ∧ i ≤ j ∧ ∃ w2, Go w1 H1 w2 H2 ∧ SatM C.K w2 H2 M1 ∧ RepS C.K w2 (Ss i) σ2, ⟨_, rfl, Nat.zero_le _, w1, .refl w1, s1, hS ▸ hr.go l1⟩, ?_⟩
      rintro i m σ2 H2 ⟨rfl, hij, w2, l2, s2, r2⟩
      have hlt : i < items.length := by omega
      have hd : items[i]? = some items[i] := List.getElem?_eq_getElem hlt
      obtain ⟨_, hgo⟩ := hJ i w2 H2 M1 l2.le s2 hpm
      obtain ⟨g1, hy⟩ := hgo _ hd
      refine .inr ⟨g1, fun σ4 H4 => i + 1 ≤ j ∧ ∃ w4, Go w1 H1 w4 H4 ∧ SatM C.K w4 H4 M1 ∧ RepS C.K w4 (Ss (i + 1)) σ4, fun σ4 H4 ⟨hle, w4, l4, s4, r4⟩ => ⟨items.length - (i + 1), by omega, rfl, hle, w4, l4, s4, r4⟩, fun x H3 hx => ?_⟩
      obtain ⟨w3, l3, s3, rx⟩ := hy x H3 hx
      by_cases e : i < j
      · obtain ⟨S1, vs, S2, hg, hb, hge⟩ := hs i _ e hd
        refine hg w3 σ2 H3 M1 x s3 (r2.go l3) rx _ fun σ' hr' _ _ => ?_
        exact hb W _ w3 σ' H3 s3 hr' fun w4 H4 σ4 l4 s4 r4 => ⟨by omega, w4, (l2.trans l3).trans l4, s4, r4.ge hge⟩
      · have e' : i = j := by omega
        subst e'
        obtain ⟨S1, vs, hg, hb⟩ := hl _ hd
        refine hg w3 σ2 H3 M1 x s3 (r2.go l3) rx _ fun σ' hr' _ _ => ?_
        exact hb W _ w3 σ' H3 s3 hr' fun w4 H4 y l4 s4 r4 => q w4 H4 y (((l1.trans l2).trans l3).trans l4) s4 r4
end
end DL
set_option maxHeartbeats 400000
namespace L2
open PySem PySem.Spec PyProof.Rows
/-- dict(d) -/
def rCopyD : List V → Hp → VK → Prop := fun xs H Q => ∃ a kvs, xs = [.ref a] ∧ H a = some (.dK kvs) ∧ ∀ p, H p = none → Q (.ref p) (upd H p (.dK kvs))
theorem call_copyD {X : Cx} : CallR X (.type "dict") rCopyD := by
  rintro pins s σ H xs us Q I r ⟨a, kvs, rfl, e, q⟩
  rw [Vals.ref1 r]
  exact d_copyOf I (.inl e) fun p s' hp I' => ⟨.ref p, _, I', rfl, q p hp⟩
/-- d.update(e) -/
def rUpdD : V → List V → Hp → VK → Prop := fun x xs H Q => ∃ a b kvs more, x = .ref a ∧ xs = [.ref b] ∧ a ≠ b ∧ H a = some (.dK kvs) ∧ Rd H b (.dK more) ∧ kvs.length + more.length ≤ 100000 ∧ Q .non (upd H a (.dK (mergeK kvs more)))
theorem mt_updD {X : Cx} : MtR X "dict.update" rUpdD := by
  rintro pins s σ H x xs v us Q I rx rs ⟨a, b, kvs, more, rfl, rfl, hne, ea, eb, hl, q⟩
  obtain rfl : v = Value.ref a := rx
  rw [Vals.ref1 rs]
  obtain ⟨z, hd, vs, rel, dd⟩ := dk_of I.hok ea
  obtain ⟨z2, hd2, vs2, rel2, dd2⟩ := dk_rd I.hok eb
  refine call_meetsIn PySem.F.slot_dict_update dd.typeIs PySem.F.entry_dict_update (PySem.F.args_dict_update_2 _ _) (meets_dict_update (mixKind X.prog X.w) a b hne hd2) ⟨vs, vs2, dd, dd2, by rw [← rel.length, ← rel2.length]; exact Nat.le_trans hl (by decide), fun h' dd' _ hs => ?_⟩
  have he : ∃ q, h'.get? a = some q := let ⟨q, _, _, hq, _⟩ := dd'; ⟨q, hq⟩
  have hz : (mergeK kvs more).length ≤ sizeLine := Nat.le_trans (length_mergeK more kvs) (Nat.le_trans hl (by decide))
  exact ⟨.non, _, d_write (t' := s.toks) I (by rw [ea]; exact True.intro) hs he (dk_new hz hd (rel2.merge rel) dd'), rfl, q⟩
end L2
namespace DL
open PySem PySem.Spec PyProof.Rows L2
def mergeD (kvs more : List (Key × D)) : List (Key × D) := more.foldl (fun acc kv => putD acc kv.1 kv.2) kvs
theorem kvrep_merge {K : PySem.W.Frag} {w : Wd} : ∀ {more : List (Key × D)} {ws : List (Key × V)} {kvs : List (Key × D)} {vs : List (Key × V)}, KVRep K w more ws → KVRep K w kvs vs → KVRep K w (mergeD kvs more) (mergeK vs ws)
  | [], [], kvs, vs, _, h => h
  | [], _ :: _, _, _, h, _ => by have := h.1; simp at this
  | _ :: _, [], _, _, h, _ => by have := h.1; simp at this
  | p :: more, q :: ws, kvs, vs, h, g => by
    obtain ⟨h1, h2⟩ := h
    rw [List.map_cons, List.map_cons] at h1
    rw [List.map_cons, List.map_cons, reps_cons] at h2
    obtain ⟨y, yr, e, r1, r2⟩ := h2
    obtain ⟨e1, e2⟩ := List.cons.inj e
    obtain ⟨e3, e4⟩ := List.cons.inj h1
    subst e1 e2
    have := kvrep_put (k := p.1) g r1
    show KVRep K w (mergeD (putD kvs p.1 p.2) more) (mergeK (putK vs q.1 q.2) ws)
    rw [e3]
    exact kvrep_merge ⟨e4, r2⟩ this
section
variable {C : Ctx} {S : DS} {M M1 M2 M3 M' : Mem} {tg a b e o i value : Expr} {es : List Expr} {d dd dv : D} {pos p2 pos' cpos apos : Pos} {n m : Nat} {kvs more : List (Key × D)} {kts : List (List Key × D)}
theorem ed_copyD (h : ED C S M e (.res n) M1) (hM : M1[n]? = some (.dK kvs)) (hm : C.mg "dict" = none) (hg : ∀ p, (C.env p).kindOf "dict" = some .globalImplicit := by intro _; rfl)
    (he : ∀ p, starEach [e] (C.env p) = (false, eval e (C.env p)) :: starEach [] (C.env p) := by intro _; rfl) : ED C S M (.Call (.Name "dict" p2) [e] [] pos) (.res M1.length) (M1 ++ [.dK kvs]) :=
  ed_callTy (r := rCopyD) (fun X hX => call_copyD) (ad_cons h ad_nil he) (fun w H vs hs r Q q => by
      obtain ⟨y, rfl, r1⟩ := reps_one r
      rw [rep_res] at r1
      obtain ⟨p, hp, rfl⟩ := r1
      obtain ⟨p1, o1, e1, e2, ws, rfl, kr⟩ := hs.res hM
      rw [hp] at e1; cases e1
      refine ⟨p, ws, rfl, e2, fun l hl => ?_⟩
      obtain ⟨g, s4, r4⟩ := hs.put_res (mo := .dK kvs) (o := .dK ws) ⟨ws, rfl, kr⟩ hl
      exact q _ _ _ g s4 r4) hm boot_dict hg (by decide) (by decide) he
theorem tyD_dK (hM : M[n]? = some (.dK kvs)) : TyD C "dict" M (.res n) := fun w H x hs r => by
  rw [rep_res] at r
  obtain ⟨p, hp, rfl⟩ := r
  obtain ⟨p1, o1, e1, e2, ws, rfl, kr⟩ := hs.res hM
  rw [hp] at e1; cases e1
  exact .inr (.inr (.inl ⟨rfl, .inl ⟨ws, e2⟩⟩))
theorem ed_updD (h1 : ED C S M a (.res n) M1) (h2 : ED C S M1 e (.res m) M2) (hM1 : M1[n]? = some (.dK kvs)) (hMa : M2[n]? = some (.dK kvs)) (hMb : M2[m]? = some (.dK more) ∨ ∃ o0, M2[m]? = some (.fz more o0)) (hne : n ≠ m) (hl : kvs.length + more.length ≤ 100000) (hbase : ∀ p, attributeBase a "update" (C.env p) (eval a (C.env p)) = eval a (C.env p) := by intro _; rfl)
    (hfew : ∀ p, ((backTo pos (starEach [e] (C.env p))).all (fun x => !x.1) && (backToKw pos (keywordEach [] (C.env p))).all (fun x => x.1.isSome)
      && decide ([e].length + ([] : List Keyword).length + (if ([] : List Keyword).isEmpty then 0 else 1) < 30)) = true := by intro _; rfl)
    (hline : (apos.endLine == pos.line) = true := by rfl) (hs : ∀ p, starEach [e] (C.env p) = (false, eval e (C.env p)) :: starEach [] (C.env p) := by intro _; rfl) :
    ED C S M (.Call (.Attribute a "update" apos) [e] [] pos) (.v .non) (M2.set n (.dK (mergeD kvs more))) :=
  ed_bm (r := rUpdD) PySem.F.plainAttrs_dict PySem.F.slot_dict_update PySem.F.type_dict_update (fun X hX => mt_updD) h1 (tyD_dK hM1) (ad_cons h2 ad_nil hs) (fun w H x xs hs r1 r2 Q q => by
    obtain ⟨y, rfl, r3⟩ := reps_one r2
    rw [rep_res] at r1 r3
    obtain ⟨p, hp, rfl⟩ := r1
    obtain ⟨p', hp', rfl⟩ := r3
    obtain ⟨p1, o1, e1, e2, ws, rfl, kr⟩ := hs.res hMa
    rw [hp] at e1; cases e1
    obtain ⟨ws2, e4, kr2⟩ : ∃ ws2, Rd H p' (.dK ws2) ∧ KVRep C.K w more ws2 := by
      rcases hMb with hMb | ⟨o0, hMb⟩
      · obtain ⟨p3, o3, e3, e4, ws2, rfl, kr2⟩ := hs.res hMb
        rw [hp'] at e3; cases e3
        exact ⟨ws2, .inl e4, kr2⟩
      · obtain ⟨p3, o3, e3, e4, e5, od, ws2, e6, kr2⟩ := hs.res hMb
        rw [hp'] at e3; cases e3
        subst e5 e6
        exact ⟨ws2, .inr ⟨od, e4⟩, kr2⟩
    have hpp : p ≠ p' := fun e => by
      subst e
      obtain ⟨a1, b1⟩ := List.getElem?_eq_some_iff.mp hp
      obtain ⟨a2, b2⟩ := List.getElem?_eq_some_iff.mp hp'
      exact hne ((List.getElem_inj hs.nd).mp (b1.trans b2.symm))
    refine ⟨p, p', ws, ws2, rfl, rfl, hpp, e2, e4, by rw [kr.length, kr2.length]; exact hl, ?_⟩
    exact q w _ _ (Go.chg (o := .dK (mergeK ws ws2)) hp) (hs.chg hp ⟨_, rfl, kvrep_merge kr2 kr⟩) rep_v') hbase hfew hline hs
/-! ### tuple keys of ints and texts -/
def keyT (k : List Key) : D := .tup (k.map keyD)
theorem keyT_map (k : List Key) : k.map keyD = (k.map kV).map D.v := by
  rw [List.map_map]
  refine List.map_congr_left fun x _ => ?_
  cases x <;> rfl
theorem rep_keyT {K : PySem.W.Frag} {w : Wd} {H : Hp} {k : List Key} {y : V} (s : SatM K w H M) (r : Rep K w (keyT k) y) : ∃ p, y = .ref p ∧ H p = some (.tup (k.map kV)) := by
  obtain ⟨p, vs, rfl, st, rs⟩ := s.tupX r
  rw [keyT_map, reps_vs] at rs
  subst rs
  exact ⟨p, rfl, st⟩
theorem sd_dputX {key : List Key} (hA : C.A.units + 1 < cLine) (hv : ED C S M value dv M1) (ho : ED C S M1 o (.res n) M2) (hi : ED C S M2 i (keyT key) M3) (hM : M3[n]? = some (.dT kts)) (hl : kts.length < 100000)
    (hs : ∀ p, swapsWith value (some (.Subscript o i pos')) pos.line (C.env p) = pure false := by intro _; rfl) : SD C S M (.Assign [.Subscript o i pos'] value pos) (.nx S (M3.set n (.dT (putD kts key dv)))) :=
  SD.of (t := fun _ => sDPut (wE C o) (wE C i) (wE C value)) (fun W X hX ow => by
    have z : X.A.units + 1 < cLine → _ → PS X (.Assign [.Subscript o i pos'] value pos) (sDPut (wE C o) (wE C i) (wE C value)) := fun hu hs => ps_dput hu (pe_w hX) (pe_w hX) (pe_w hX) hs
    cases hX with | mk p => exact z hA (hs p)) fun W E w σ H hsat hr q =>
    hv w σ H hsat hr _ fun w1 H1 v l1 s1 r1 => ho w1 σ H1 s1 (hr.go l1) _ fun w2 H2 x l2 s2 r2 => hi w2 σ H2 s2 (hr.go (l1.trans l2)) _ fun w3 H3 y l3 s3 r3 => by
      have r2' := r2.go l3
      rw [rep_res] at r2'
      obtain ⟨p, hp, rfl⟩ := r2'
      obtain ⟨p', o', e1, e2, ws, rfl, kr⟩ := s3.res hM
      rw [hp] at e1; cases e1
      obtain ⟨b, rfl, hb⟩ := rep_keyT s3 r3
      have lz : ws.length < sizeLine := by rw [kr.length]; exact Nat.lt_of_lt_of_le hl (by decide)
      refine ⟨p, _, rfl, DPut.t (k := key) e2 hb lz, ?_⟩
      have g := ((l1.trans l2).trans l3).trans (Go.chg (o := .dT (putK ws key v)) hp)
      exact q w3 _ σ g (s3.chg hp ⟨_, rfl, kvrep_put kr (r1.go (l2.trans l3))⟩) (hr.go g)
theorem ed_dgetX {key : List Key} (hA : C.A.units + 1 < cLine) (ho : ED C S M o (.res n) M1) (hi : ED C S M1 i (keyT key) M2) (hM : M2[n]? = some (.dT kts)) (hv : valD kts key = some d) (hs : NoSl i) : ED C S M (.Subscript o i pos) d M2 :=
  ED.of (t := tDGet (wE C o) (wE C i)) (fun X hX => by
    have z : X.A.units + 1 < cLine → PE X (.Subscript o i pos) (tDGet (wE C o) (wE C i)) := fun hu => pe_dget hu (pe_w hX) (pe_w hX) hs
    cases hX with | mk p => exact z hA) fun w σ H hsat hr Q q =>
    ho w σ H hsat hr _ fun w1 H1 x l1 s1 r1 => hi w1 σ H1 s1 (hr.go l1) _ fun w2 H2 y l2 s2 r2 => by
      have r1' := r1.go l2
      rw [rep_res] at r1'
      obtain ⟨p, hp, rfl⟩ := r1'
      obtain ⟨p', o', e1, e2, ws, rfl, kr⟩ := s2.res hM
      rw [hp] at e1; cases e1
      obtain ⟨b, rfl, hb⟩ := rep_keyT s2 r2
      obtain ⟨v, ev, rv⟩ := (kvrep_val (k := key) kr).1 d hv
      refine ⟨p, v, rfl, ?_, q w2 H2 v (l1.trans l2) s2 rv⟩
      rw [← ev]
      exact DGet.t e2 hb
theorem ed_lenT (h : ED C S M e (.res n) M1) (hM : M1[n]? = some (.dT kts)) (hm : C.mg "len" = none) (hg : ∀ p, (C.env p).kindOf "len" = some .globalImplicit := by intro _; rfl) (he : ∀ p, starEach [e] (C.env p) = (false, eval e (C.env p)) :: starEach [] (C.env p) := by intro _; rfl) :
    ED C S M (.Call (.Name "len" p2) [e] [] pos) (dInt ((kts.length : Nat) : Int)) M1 := ed_callB (r := rLenT) (fun _ _ => call_len_dT) (ad_cons h ad_nil he) (fun w H xs hs r Q q => by
      obtain ⟨y, rfl, r1⟩ := reps_one r
      rw [rep_res] at r1
      obtain ⟨p, hp, rfl⟩ := r1
      obtain ⟨p', o', e1, e2, ws, rfl, kr⟩ := hs.res hM
      rw [hp] at e1; cases e1
      refine ⟨p, ws, rfl, e2, ?_⟩
      rw [kr.length]
      exact q w H _ (.refl w) hs rep_v') hm boot_len hg (by decide) (by decide) he
/-! ### x not in d -/
theorem td_ninK {key : Key} (hA : C.A.units + 1 < cLine) (hi : ED C S M a (keyD key) M1) (ho : ED C S M1 b (.res n) M2) (hM : M2[n]? = some (.dK kvs)) (hm : behindInMarks .NotIn b = false := by with_unfolding_all rfl) : TD C S M (.Compare a [.NotIn] [b] pos) (!(valD kvs key).isSome) M2 :=
  TD.of (t := tB (tDNotIn (wE C a) (wE C b))) (fun X hX => by
    have z : X.A.units + 1 < cLine → PT X (.Compare a [.NotIn] [b] pos) (tB (tDNotIn (wE C a) (wE C b))) := fun hu => pt_cmp (pc_dnotin hu (pe_w hX) (pe_w hX)) hm
    cases hX with | mk p => exact z hA) fun w σ H hsat hr Q q => hi w σ H hsat hr _ fun w1 H1 y l1 s1 r1 => ho w1 σ H1 s1 (hr.go l1) _ fun w2 H2 x l2 s2 r2 => by
      rw [rep_key] at r1
      subst r1
      rw [rep_res] at r2
      obtain ⟨p, hp, rfl⟩ := r2
      obtain ⟨p', o', e1, e2, ws, rfl, kr⟩ := s2.res hM
      rw [hp] at e1; cases e1
      refine ⟨p, valV ws key, rfl, DGet.k e2, ?_⟩
      obtain ⟨g1, g2⟩ := kvrep_val (k := key) kr
      have e : (valV ws key).isSome = (valD kvs key).isSome := by
        cases hv : valD kvs key with
        | none => rw [g2 hv]; rfl
        | some d =>
          obtain ⟨v, ev, _⟩ := g1 d hv
          rw [ev]; rfl
      rw [e]
      exact ⟨_, rfl, q w2 H2 (l1.trans l2) s2⟩
/-! ### the keys of a dict, while it is locked -/
theorem id_keysK {o0 : HO} (h : ED C S M e (.res n) M') (hM : M'[n]? = some (.fz kvs o0)) : ID C S M tg e (kvs.map fun kv => keyD kv.1) (fun M => M[n]? = some (.fz kvs o0)) M' := fun w σ H hs hp R q => ⟨iKeys (wE C e), fun X hX => by
  have z : PI X tg e (iKeys (wE C e)) := pi_keys (pe_w hX)
  cases hX with | mk p => exact z, h w σ H hs hp _ fun w1 H1 y l s r => by
    rw [rep_res] at r
    obtain ⟨p, hp1, rfl⟩ := r
    obtain ⟨p', o', e1, e2, e3, od, ws, e4, kr⟩ := s.res hM
    rw [hp1] at e1; cases e1
    subst e3
    subst e4
    refine ⟨p, od, rfl, .inl ⟨ws, e2, q w1 H1 _ l s fun i w2 H2 M2 l2 s2 h2 => ?_⟩⟩
    obtain ⟨p2, o2, f1, f2, f3, od2, ws2, f4, kr2⟩ := s2.res h2
    rw [l2.at hp1] at f1; cases f1
    subst f3
    cases f4
    have hlen : ws.length = kvs.length := kr2.length
    refine ⟨fun hi => ⟨f2, by rw [hlen]; simpa using hi⟩, fun d hd => ?_⟩
    rw [List.getElem?_map] at hd
    cases hk : kvs[i]? with
    | none => rw [hk] at hd; cases hd
    | some kv =>
      rw [hk] at hd
      cases hd
      have hi : i < kvs.length := (List.getElem?_eq_some_iff.mp hk).1
      refine ⟨⟨f2, by omega⟩, fun x H3 hy => ?_⟩
      obtain ⟨rfl, k, v, hkv, rfl⟩ := hy
      have ek : k = kv.1 := by
        have := congrArg (fun l => l[i]?) kr2.1
        simp only [List.getElem?_map, hkv, hk, Option.map_some, Option.some.injEq] at this
        exact this
      exact ⟨w2, .refl w2, s2, rep_key.mpr (by rw [ek])⟩⟩
end
end DL
namespace DL
open PySem PySem.Spec PyProof.Rows L2
section
variable {C : Ctx} {S S' : DS} {M M2 : Mem} {st : Stmt} {n : Nat} {kvs : List (Key × D)}
/-- a statement while the dict n is locked -/
theorem sd_lock (hM : M[n]? = some (.dK kvs)) (h : ∀ o0, SD C S (M.set n (.fz kvs o0)) st (.nx S' (M2.set n (.fz kvs o0)))) (hM2 : M2[n]? = some (.dK kvs)) : SD C S M st (.nx S' M2) :=
  SD.of (t := fun W => tLock (wS C W st)) (fun W X hX ow => ps_lock (ps_w hX ow)) fun W E w σ H hs hr q => by
    obtain ⟨p, o, e1, e2, ws, rfl, kr⟩ := hs.res hM
    refine ⟨p, _, e2, trivial, fun od => ?_⟩
    have hs1 := hs.chg (o := .frz od (.dK ws)) (mo := .fz kvs (.frz od (.dK ws))) e1 ⟨rfl, od, ws, rfl, kr⟩
    have g1 : Go w H w (upd H p (.frz od (.dK ws))) := Go.chg e1
    refine h (.frz od (.dK ws)) W _ w σ _ hs1 (hr.go g1) fun w' H' σ' l s r => ?_
    have hn : n < M2.length := (List.getElem?_eq_some_iff.mp hM2).1
    obtain ⟨p2, o2, f1, f2, f3, od2, ws2, f4, kr2⟩ := s.res (n := n) (mo := .fz kvs (.frz od (.dK ws))) (by rw [List.getElem?_set_self hn])
    rw [l.le.at e1] at f1; cases f1
    subst f3
    cases f4
    refine ⟨f2, ?_⟩
    have s3 := s.chg (o := .dK ws) (mo := .dK kvs) (l.le.at e1) ⟨ws, rfl, kr2⟩
    have e5 : (M2.set n (.fz kvs (.frz od (.dK ws)))).set n (.dK kvs) = M2 := by
      rw [List.set_set]
      apply List.ext_getElem?
      intro i
      by_cases hi : n = i
      · subst hi
        rw [List.getElem?_set_self hn, hM2]
      · rw [List.getElem?_set_ne hi]
    rw [e5] at s3
    have g2 : Go w' H' w' (upd H' p (.dK ws)) := Go.chg (l.le.at e1)
    exact q w' _ σ' ((g1.trans l).trans g2) s3 (r.go g2)
end
/-! ### sets of whole numbers, as dicts -/
def keysK (L : List Nat) : List (Key × D) := L.map fun (i : Nat) => (.inl (i : Int), .v (.bl true))
def addN (L : List Nat) (i : Nat) : List Nat := if i ∈ L then L else L ++ [i]
def unionN (L J : List Nat) : List Nat := J.foldl addN L
theorem keysK_len (L : List Nat) : (keysK L).length = L.length := by unfold keysK; rw [List.length_map]
theorem keysK_val (L : List Nat) (i : Nat) : valD (keysK L) (.inl (i : Int)) = if i ∈ L then some (.v (.bl true)) else none := by
  unfold valD keysK
  induction L with
  | nil => rfl
  | cons j L ih =>
    rw [List.map_cons]
    by_cases h : j = i
    · subst h
      rw [List.find?_cons_of_pos (by simp), if_pos (by simp)]; rfl
    · rw [List.find?_cons_of_neg (by simp only [decide_eq_true_eq]; intro e; exact h (by have := Sum.inl.inj e; omega))]
      rw [ih]
      by_cases h2 : i ∈ L
      · rw [if_pos h2, if_pos (List.mem_cons_of_mem _ h2)]
      · rw [if_neg h2, if_neg (by simp [h2]; exact fun e => h e.symm)]
theorem keysK_put (L : List Nat) (i : Nat) : putD (keysK L) (.inl (i : Int)) (.v (.bl true)) = keysK (addN L i) := by
  have hany : ((keysK L).any fun kv => decide (kv.1 = (Sum.inl (i : Int) : Key))) = decide (i ∈ L) := by
    unfold keysK
    rw [List.any_map]
    induction L with
    | nil => rfl
    | cons j L ih =>
      rw [List.any_cons, ih]
      by_cases h : j = i
      · subst h; simp
      · have h2 : ¬ i = j := fun e => h e.symm
        have h3 : ¬ ((Sum.inl (j : Int) : Key) = Sum.inl (i : Int)) := fun e => h (by have := Sum.inl.inj e; omega)
        simp only [Function.comp, List.mem_cons, h2, false_or, h3, decide_false, Bool.false_or]
  unfold putD addN
  rw [hany]
  by_cases h : i ∈ L
  · rw [if_pos (decide_eq_true h), if_pos h]
    unfold keysK
    rw [List.map_map]
    refine List.map_congr_left fun j _ => ?_
    simp only [Function.comp]
    split <;> rfl
  · rw [if_neg (by simpa using h), if_neg h]
    unfold keysK
    rw [List.map_append]; rfl
theorem keysK_merge (L : List Nat) : ∀ J, mergeD (keysK L) (keysK J) = keysK (unionN L J)
  | [] => rfl
  | j :: J => by
    show mergeD (putD (keysK L) (.inl (j : Int)) (.v (.bl true))) (keysK J) = keysK (unionN (addN L j) J)
    rw [keysK_put]
    exact keysK_merge (addN L j) J
theorem addN_mem {L : List Nat} {i j : Nat} : j ∈ addN L i ↔ j ∈ L ∨ j = i := by
  unfold addN
  split
  · exact ⟨.inl, fun h => h.elim id fun e => by subst e; assumption⟩
  · simp
theorem unionN_mem {i : Nat} : ∀ {J L : List Nat}, i ∈ unionN L J ↔ i ∈ L ∨ i ∈ J
  | [], L => by simp [unionN]
  | j :: J, L => by
    show i ∈ unionN (addN L j) J ↔ _
    rw [unionN_mem, addN_mem, List.mem_cons, or_assoc]
theorem addN_nd {L : List Nat} (h : L.Nodup) (i : Nat) : (addN L i).Nodup := by
  unfold addN
  split
  · exact h
  · refine List.nodup_append.mpr ⟨h, by simp, fun a ha b hb e => ?_⟩
    have : b = i := by simpa using hb
    subst this e
    rename_i hn
    exact hn ha
theorem unionN_nd : ∀ {J L : List Nat}, L.Nodup → (unionN L J).Nodup
  | [], L, h => h
  | j :: J, L, h => unionN_nd (J := J) (addN_nd h j)
theorem keysK_ks (L : List Nat) : (keysK L).map (fun kv => keyD kv.1) = L.map fun (i : Nat) => dInt (i : Int) := by
  unfold keysK
  rw [List.map_map]; rfl
end DL
namespace L2
open PySem PySem.Spec PyProof.Rows
def rEqNil (K : PySem.W.Frag) : R2 := fun x y H Q => ∃ a b vs, x = .ref a ∧ y = .ref b ∧ SqL K H a vs ∧ SqL K H b [] ∧ Q (.bl vs.isEmpty) H
theorem op_eqNil {X : Cx} (hu : X.A.units < cLine) : OpR X (compareOp .Eq) (rEqNil X.K) := by
  rintro pins s σ H x y v u Q I rx ry ⟨a, b, vs, rfl, rfl, ha, hb, q⟩
  obtain rfl : v = Value.ref a := rx
  obtain rfl : u = Value.ref b := ry
  obtain ⟨ia, ra, la, na⟩ := I.list ha
  obtain ⟨ib, rb, lb, nb⟩ := I.list hb
  cases rb
  by_cases h : vs = []
  · subst h
    cases ra
    exact SeqAt.eq_listAt (e := fun _ => true) la.isList lb.isList rfl hu (fun j h1 h2 => absurd h1 (by simp)) ⟨.bl _, H, I, rfl, q⟩
  · have hl : ia.length = vs.length := (ra.length).symm
    have h0 : 0 < vs.length := List.length_pos_iff.mpr h
    have e : vs.isEmpty = false := by
      cases vs with
      | nil => exact absurd rfl h
      | cons a b => rfl
    rw [e] at q
    exact SeqAt.eq_list_lengthsAt la.isList lb.isList (by rw [bne_iff_ne]; simp only [List.size_toArray, List.length_nil]; omega) hu ⟨.bl _, H, I, rfl, q⟩
end L2
namespace DL
open PySem PySem.Spec PyProof.Rows L2
section
variable {C : Ctx} {S : DS} {M M1 M2 : Mem} {a b : Expr} {da db : D} {ds : List D} {pos : Pos}
/-- x == [], whatever stands in x -/
theorem td_eqNil (hA : C.A.units + 64 < cLine) (h1 : ED C S M a da M1) (h2 : ED C S M1 b db M2) (v1 : LV M2 da ds) (v2 : LV M2 db []) : TD C S M (.Compare a [.Eq] [b] pos) ds.isEmpty M2 :=
  td_cmpR (r := rEqNil C.K) (fun X hX => by
    have z : X.A.units < cLine → OpR X (compareOp .Eq) (rEqNil X.K) := op_eqNil
    cases hX with | mk p => exact z (by have h : C.A.units + 64 < cLine := hA; show C.A.units < cLine; omega)) h1 h2 (fun w H x y hs hx hy Q q => by
    obtain ⟨p, vs, rfl, st, rs⟩ := hs.lv v1 hx
    obtain ⟨p2, vs2, rfl, st2, rs2⟩ := hs.lv v2 hy
    rw [reps_nil] at rs2
    subst rs2
    refine ⟨p, p2, vs, rfl, rfl, st, st2, ?_⟩
    have e : vs.isEmpty = ds.isEmpty := by
      have := rs.length
      cases vs <;> cases ds <;> simp at this ⊢
    rw [e]
    exact q w H _ (.refl w) hs rep_v') (nomark _)
end
end DL
set_option maxHeartbeats 400000
namespace KS
open PySem PySem.Spec PyProof.Rows L2 DL
/-! ### law 08: changes, what is known of them -/
structure ACh where
  kp : Int
  num : Int
  val : Int
  seen : List Nat
  key : Bool
def rowA (c : ACh) : List Int := [c.kp, c.num, c.val]
/-- a set of changes of the key b and a mark that tell the same -/
structure CoW (A : List ACh) (n : Nat) (own : Nat → Int) (b : Bool) (W : List Nat) (m : List Int) : Prop where
  nd : W.Nodup
  lt : ∀ i ∈ W, ∃ c, A[i]? = some c ∧ c.key = b
  cl : ∀ i ∈ W, ∀ c, A[i]? = some c → ∀ j ∈ c.seen, j ∈ W
  len : m.length = n
  tl : ∀ (i : Nat) (c : ACh), A[i]? = some c → c.key = b → 0 ≤ c.kp → (i ∈ W ↔ c.num ≤ m.getD c.kp.toNat 0)
  nn : ∀ j : Nat, 0 ≤ m.getD j 0
  le : ∀ j, j < n → m.getD j 0 ≤ own j
structure NumA (A : List ACh) (n : Nat) (own : Nat → Int) (b : Bool) : Prop where
  rng : ∀ (i : Nat) (c : ACh), A[i]? = some c → c.key = b → 0 ≤ c.kp → c.kp < n ∧ 1 ≤ c.num ∧ c.num ≤ own c.kp.toNat
  uniq : ∀ (i i' : Nat) (c c' : ACh), A[i]? = some c → A[i']? = some c' → c.key = b → c'.key = b → 0 ≤ c.kp → c.kp = c'.kp → c.num = c'.num → i = i'
  ex : ∀ j : Nat, j < n → ∀ x : Int, 1 ≤ x → x ≤ own j → ∃ (i : Nat) (c : ACh), A[i]? = some c ∧ c.key = b ∧ c.kp = (j : Int) ∧ c.num = x
  old : ∀ (i : Nat) (c : ACh), A[i]? = some c → ∀ j ∈ c.seen, j < i
def Std (A : List ACh) (W : List Nat) (rows : List (List Int)) : Prop := ∀ x, x ∈ rows ↔ ∃ i ∈ W, ∃ c, A[i]? = some c ∧ 0 ≤ c.kp ∧ rowA c = x ∧ ∀ i' ∈ W, ∀ c', A[i']? = some c' → i ∉ c'.seen
def kpA (A : List ACh) (i : Nat) : Int := ((A[i]?).map (·.kp)).getD (-1)
def numA (A : List ACh) (i : Nat) : Int := ((A[i]?).map (·.num)).getD 0
section
variable {A : List ACh} {n : Nat} {own : Nat → Int} {b : Bool} {W U : List Nat} {m u : List Int}
theorem count8 (h : CoW A n own b W m) (hn : NumA A n own b) {j : Nat} (hj : j < n) : ((W.filter fun i => decide (kpA A i = (j : Int))).length : Int) = m.getD j 0 := by
  have hm := h.nn j
  have hle := h.le j hj
  have e : ((W.filter fun i => decide (kpA A i = (j : Int))).map (numA A)).Perm ((List.range (m.getD j 0).toNat).map fun (x : Nat) => (x : Int) + 1) := by
    refine (List.perm_ext_iff_of_nodup ?_ ?_).mpr fun x => ?_
    · refine List.pairwise_map.mpr (List.Pairwise.imp_of_mem (fun {a c} ha hc hne e => hne ?_) (List.Nodup.sublist (List.filter_sublist ..) h.nd))
      obtain ⟨h1, h2⟩ := List.mem_filter.mp ha
      obtain ⟨h3, h4⟩ := List.mem_filter.mp hc
      obtain ⟨ca, q1, q2⟩ := h.lt a h1
      obtain ⟨cc, q3, q4⟩ := h.lt c h3
      have k1 : ca.kp = (j : Int) := by have := of_decide_eq_true h2; unfold kpA at this; rw [q1] at this; exact this
      have k2 : cc.kp = (j : Int) := by have := of_decide_eq_true h4; unfold kpA at this; rw [q3] at this; exact this
      unfold numA at e
      rw [q1, q3] at e
      exact hn.uniq a c ca cc q1 q3 q2 q4 (by omega) (by rw [k1, k2]) e
    · exact List.pairwise_map.mpr (List.nodup_range.imp fun {a c} hne e => hne (by omega))
    · rw [List.mem_map, List.mem_map]
      constructor
      · rintro ⟨i, hi, rfl⟩
        obtain ⟨h1, h2⟩ := List.mem_filter.mp hi
        obtain ⟨c, q1, q2⟩ := h.lt i h1
        have k1 : c.kp = (j : Int) := by have := of_decide_eq_true h2; unfold kpA at this; rw [q1] at this; exact this
        obtain ⟨r1, r2, r3⟩ := hn.rng i c q1 q2 (by omega)
        have := (h.tl i c q1 q2 (by omega)).mp h1
        rw [k1, Int.toNat_natCast] at this
        have en : numA A i = c.num := by unfold numA; rw [q1]; rfl
        rw [en]
        exact ⟨(c.num - 1).toNat, List.mem_range.mpr (by omega), by omega⟩
      · rintro ⟨y, hy, rfl⟩
        have hy := List.mem_range.mp hy
        obtain ⟨i, c, q1, q2, q3, q4⟩ := hn.ex j hj ((y : Int) + 1) (by omega) (by omega)
        refine ⟨i, List.mem_filter.mpr ⟨(h.tl i c q1 q2 (by omega)).mpr (by rw [q3, Int.toNat_natCast]; omega), ?_⟩, ?_⟩
        · refine decide_eq_true ?_
          unfold kpA
          rw [q1]; exact q3
        · unfold numA
          rw [q1]; exact q4
  have := e.length_eq
  rw [List.length_map, List.length_map, List.length_range] at this
  omega
theorem CoW.blank (hown : ∀ j, j < n → 0 ≤ own j) (hn : NumA A n own b) : CoW A n own b [] (blankI n) :=
  ⟨List.nodup_nil, (fun _ h => nomatch h), (fun _ h => nomatch h), by simp [blankI], fun i c q1 q2 q3 => ⟨(fun h => nomatch h), fun h => by
    rw [blankI_getD] at h
    have := (hn.rng i c q1 q2 q3).2.1
    omega⟩, fun j => by rw [blankI_getD]; exact Int.le_refl 0, fun j hj => by rw [blankI_getD]; exact hown j hj⟩
theorem CoW.join (h : CoW A n own b W m) (g : CoW A n own b U u) : CoW A n own b (unionN W U) (joinI m u) := by
  have hl : m.length = u.length := by rw [h.len, g.len]
  refine ⟨unionN_nd h.nd, fun i hi => ?_, fun i hi c hc j hj => ?_, by rw [joinI_len hl]; exact h.len, fun i c q1 q2 q3 => ?_, fun j => ?_, fun j hj => ?_⟩
  · rcases unionN_mem.mp hi with hi | hi
    · exact h.lt i hi
    · exact g.lt i hi
  · rcases unionN_mem.mp hi with hi | hi
    · exact unionN_mem.mpr (.inl (h.cl i hi c hc j hj))
    · exact unionN_mem.mpr (.inr (g.cl i hi c hc j hj))
  · rw [unionN_mem, h.tl i c q1 q2 q3, g.tl i c q1 q2 q3, joinI_getD hl]
    omega
  · rw [joinI_getD hl]
    have := h.nn j
    omega
  · rw [joinI_getD hl]
    have := h.le j hj
    have := g.le j hj
    omega
/-- one more change -/
theorem getApp (A : List ACh) (c : ACh) {i : Nat} {x : ACh} (h : (A ++ [c])[i]? = some x) : A[i]? = some x ∨ (i = A.length ∧ x = c) := by
  by_cases hi : i < A.length
  · rw [List.getElem?_append_left hi] at h
    exact .inl h
  · rw [List.getElem?_append_right (by omega)] at h
    have : i - A.length = 0 := by
      have := (List.getElem?_eq_some_iff.mp h).1
      simp at this; omega
    rw [this] at h
    exact .inr ⟨by omega, by simpa using h.symm⟩
theorem getApp' (A : List ACh) (c : ACh) {i : Nat} {x : ACh} (h : A[i]? = some x) : (A ++ [c])[i]? = some x := by
  rw [List.getElem?_append_left (List.getElem?_eq_some_iff.mp h).1]; exact h
theorem getLast' (A : List ACh) (c : ACh) : (A ++ [c])[A.length]? = some c := by simp
/-- a set and a mark stay, when a change is made that they don't know -/
theorem CoW.grow (h : CoW A n own b W m) {c : ACh} {own' : Nat → Int} (ho : ∀ j, j < n → own j ≤ own' j) (hc : c.key = b → 0 ≤ c.kp → c.kp < n ∧ own c.kp.toNat < c.num) : CoW (A ++ [c]) n own' b W m := by
  have hlt : ∀ i ∈ W, i < A.length := fun i hi => by
    obtain ⟨x, q, _⟩ := h.lt i hi
    exact (List.getElem?_eq_some_iff.mp q).1
  refine ⟨h.nd, fun i hi => ?_, fun i hi x hx j hj => ?_, h.len, fun i x q1 q2 q3 => ?_, h.nn, fun j hj => Int.le_trans (h.le j hj) (ho j hj)⟩
  · obtain ⟨x, q1, q2⟩ := h.lt i hi
    exact ⟨x, getApp' A c q1, q2⟩
  · rcases getApp A c hx with hx | ⟨e, _⟩
    · exact h.cl i hi x hx j hj
    · have := hlt i hi
      omega
  · rcases getApp A c q1 with q1 | ⟨rfl, rfl⟩
    · exact h.tl i x q1 q2 q3
    · obtain ⟨h1, h2⟩ := hc q2 q3
      constructor
      · intro hi
        have := hlt _ hi
        omega
      · intro hle
        have := h.le x.kp.toNat (by omega)
        omega
theorem Std.grow {rows : List (List Int)} (h : Std A W rows) (hlt : ∀ i ∈ W, i < A.length) (c : ACh) : Std (A ++ [c]) W rows := fun x => by
  rw [h x]
  constructor
  · rintro ⟨i, hi, x, q1, q2, q3, q4⟩
    refine ⟨i, hi, x, getApp' A c q1, q2, q3, fun i' hi' c' hc' => ?_⟩
    rcases getApp A c hc' with hc' | ⟨e, _⟩
    · exact q4 i' hi' c' hc'
    · have := hlt i' hi'; omega
  · rintro ⟨i, hi, x, q1, q2, q3, q4⟩
    rcases getApp A c q1 with q1 | ⟨e, _⟩
    · exact ⟨i, hi, x, q1, q2, q3, fun i' hi' c' hc' => q4 i' hi' c' (getApp' A c hc')⟩
    · have := hlt i hi; omega
theorem CoW.lts (h : CoW A n own b W m) : ∀ i ∈ W, i < A.length := fun i hi => by
  obtain ⟨x, q, _⟩ := h.lt i hi
  exact (List.getElem?_eq_some_iff.mp q).1
/-- seen by a mark = in the set of the mark -/
theorem CoW.uns (h : CoW A n own b U u) {i : Nat} {c : ACh} (q1 : A[i]? = some c) (q2 : c.key = b) (q3 : 0 ≤ c.kp) : unseenB u (rowA c) = true ↔ i ∉ U := by
  rw [h.tl i c q1 q2 q3]
  show (!decide (c.num ≤ u.getD c.kp.toNat 0)) = true ↔ _
  rw [Bool.not_eq_true', decide_eq_false_iff_not]
/-- what a drop leaves -/
theorem Std.drop {rows : List (List Int)} (h : CoW A n own b W m) (g : CoW A n own b U u) (s : Std A W rows) {c : ACh} (hs : c.seen = U) (hk : ¬ 0 ≤ c.kp) : Std (A ++ [c]) (addN (unionN W U) A.length) (rows.filter (unseenB u)) := fun x => by
  rw [List.mem_filter, s x]
  constructor
  · rintro ⟨⟨i, hi, x, q1, q2, rfl, q4⟩, hu⟩
    obtain ⟨c', e', hb⟩ := h.lt i hi
    rw [q1] at e'; cases e'
    have hiU := (g.uns q1 hb q2).mp hu
    refine ⟨i, addN_mem.mpr (.inl (unionN_mem.mpr (.inl hi))), x, getApp' A c q1, q2, rfl, fun i' hi' c' hc' hm => ?_⟩
    rcases getApp A c hc' with hc' | ⟨rfl, rfl⟩
    · rcases addN_mem.mp hi' with hi' | rfl
      · rcases unionN_mem.mp hi' with hi' | hi'
        · exact q4 i' hi' c' hc' hm
        · exact hiU (g.cl i' hi' c' hc' i hm)
      · have := (List.getElem?_eq_some_iff.mp hc').1; omega
    · rw [hs] at hm
      exact hiU hm
  · rintro ⟨i, hi, x, q1, q2, rfl, q4⟩
    rcases getApp A c q1 with q1 | ⟨rfl, rfl⟩
    · have hiU : i ∉ U := fun hm => q4 A.length (addN_mem.mpr (.inr rfl)) c (getLast' A c) (by rw [hs]; exact hm)
      have hiW : i ∈ W := by
        rcases addN_mem.mp hi with hi | rfl
        · rcases unionN_mem.mp hi with hi | hi
          · exact hi
          · exact absurd hi hiU
        · have := (List.getElem?_eq_some_iff.mp q1).1; omega
      obtain ⟨c', e', hb⟩ := h.lt i hiW
      rw [q1] at e'; cases e'
      exact ⟨⟨i, hiW, x, q1, q2, rfl, fun i' hi' c' hc' => q4 i' (addN_mem.mpr (.inl (unionN_mem.mpr (.inl hi')))) c' (getApp' A c hc')⟩, (g.uns q1 hb q2).mpr hiU⟩
    · exact absurd q2 hk
/-- what a put leaves -/
theorem Std.put {rows : List (List Int)} (h : CoW A n own b W m) (g : CoW A n own b U u) (s : Std A W rows) {c : ACh} (hs : c.seen = U) (hk : 0 ≤ c.kp) (hold : ∀ (i : Nat) (c : ACh), A[i]? = some c → ∀ j ∈ c.seen, j < i) :
    ∀ x, x ∈ rows.filter (unseenB u) ∨ x = rowA c ↔ ∃ i ∈ addN (unionN W U) A.length, ∃ c', (A ++ [c])[i]? = some c' ∧ 0 ≤ c'.kp ∧ rowA c' = x ∧ ∀ i' ∈ addN (unionN W U) A.length, ∀ c'', (A ++ [c])[i']? = some c'' → i ∉ c''.seen := fun x => by
  rw [List.mem_filter, s x]
  constructor
  · rintro (⟨⟨i, hi, x, q1, q2, rfl, q4⟩, hu⟩ | rfl)
    · obtain ⟨c', e', hb⟩ := h.lt i hi
      rw [q1] at e'; cases e'
      have hiU := (g.uns q1 hb q2).mp hu
      refine ⟨i, addN_mem.mpr (.inl (unionN_mem.mpr (.inl hi))), x, getApp' A c q1, q2, rfl, fun i' hi' c' hc' hm => ?_⟩
      rcases getApp A c hc' with hc' | ⟨rfl, rfl⟩
      · rcases addN_mem.mp hi' with hi' | rfl
        · rcases unionN_mem.mp hi' with hi' | hi'
          · exact q4 i' hi' c' hc' hm
          · exact hiU (g.cl i' hi' c' hc' i hm)
        · have := (List.getElem?_eq_some_iff.mp hc').1; omega
      · rw [hs] at hm
        exact hiU hm
    · refine ⟨A.length, addN_mem.mpr (.inr rfl), c, getLast' A c, hk, rfl, fun i' hi' c' hc' hm => ?_⟩
      rcases getApp A c hc' with hc' | ⟨rfl, rfl⟩
      · have h1 := hold i' c' hc' _ hm
        have := (List.getElem?_eq_some_iff.mp hc').1
        omega
      · rw [hs] at hm
        have := g.lts _ hm
        omega
  · rintro ⟨i, hi, x, q1, q2, rfl, q4⟩
    rcases getApp A c q1 with q1 | ⟨rfl, rfl⟩
    · refine .inl ?_
      have hiU : i ∉ U := fun hm => q4 A.length (addN_mem.mpr (.inr rfl)) c (getLast' A c) (by rw [hs]; exact hm)
      have hiW : i ∈ W := by
        rcases addN_mem.mp hi with hi | rfl
        · rcases unionN_mem.mp hi with hi | hi
          · exact hi
          · exact absurd hi hiU
        · have := (List.getElem?_eq_some_iff.mp q1).1; omega
      obtain ⟨c', e', hb⟩ := h.lt i hiW
      rw [q1] at e'; cases e'
      exact ⟨⟨i, hiW, x, q1, q2, rfl, fun i' hi' c' hc' => q4 i' (addN_mem.mpr (.inl (unionN_mem.mpr (.inl hi')))) c' (getApp' A c hc')⟩, (g.uns q1 hb q2).mpr hiU⟩
    · exact .inr rfl
/-- where two shelves meet -/
theorem Std.met {s t : Shelf} (h : CoW A n own b W s.1) (g : CoW A n own b U t.1) (hn : NumA A n own b) (hs : Std A W s.2) (ht : Std A U t.2) : Std A (unionN W U) (metShelf s t.1 t.2).2 := fun x => by
  rw [mem_met]
  constructor
  · rintro (⟨h1, h2⟩ | ⟨h1, h2⟩ | ⟨h1, h2⟩)
    · obtain ⟨i, hi, c, q1, q2, rfl, q4⟩ := (hs x).mp h1
      obtain ⟨i2, hi2, c2, p1, p2, p3, p4⟩ := (ht _).mp h2
      obtain ⟨_, e1, b1⟩ := h.lt i hi
      rw [q1] at e1; cases e1
      obtain ⟨_, e2, b2⟩ := g.lt i2 hi2
      rw [p1] at e2; cases e2
      have k1 : c.kp = c2.kp := (List.cons.inj p3).1.symm
      have k2 : c.num = c2.num := (List.cons.inj (List.cons.inj p3).2).1.symm
      have := hn.uniq i i2 c c2 q1 p1 b1 b2 q2 k1 k2
      subst this
      refine ⟨i, unionN_mem.mpr (.inl hi), c, q1, q2, rfl, fun i' hi' c' hc' => ?_⟩
      rcases unionN_mem.mp hi' with hi' | hi'
      · exact q4 i' hi' c' hc'
      · exact p4 i' hi' c' hc'
    · obtain ⟨i, hi, c, q1, q2, rfl, q4⟩ := (hs x).mp h1
      obtain ⟨_, e1, b1⟩ := h.lt i hi
      rw [q1] at e1; cases e1
      have hiU := (g.uns q1 b1 q2).mp h2
      refine ⟨i, unionN_mem.mpr (.inl hi), c, q1, q2, rfl, fun i' hi' c' hc' hm => ?_⟩
      rcases unionN_mem.mp hi' with hi' | hi'
      · exact q4 i' hi' c' hc' hm
      · exact hiU (g.cl i' hi' c' hc' i hm)
    · obtain ⟨i, hi, c, q1, q2, rfl, q4⟩ := (ht x).mp h1
      obtain ⟨_, e1, b1⟩ := g.lt i hi
      rw [q1] at e1; cases e1
      have hiW := (h.uns q1 b1 q2).mp h2
      refine ⟨i, unionN_mem.mpr (.inr hi), c, q1, q2, rfl, fun i' hi' c' hc' hm => ?_⟩
      rcases unionN_mem.mp hi' with hi' | hi'
      · exact hiW (h.cl i' hi' c' hc' i hm)
      · exact q4 i' hi' c' hc' hm
  · rintro ⟨i, hi, c, q1, q2, rfl, q4⟩
    have b1 : c.key = b := by
      rcases unionN_mem.mp hi with hi | hi
      · obtain ⟨_, e1, b1⟩ := h.lt i hi
        rw [q1] at e1; cases e1
        exact b1
      · obtain ⟨_, e1, b1⟩ := g.lt i hi
        rw [q1] at e1; cases e1
        exact b1
    have inS : i ∈ W → rowA c ∈ s.2 := fun hi => (hs _).mpr ⟨i, hi, c, q1, q2, rfl, fun i' hi' => q4 i' (unionN_mem.mpr (.inl hi'))⟩
    have inT : i ∈ U → rowA c ∈ t.2 := fun hi => (ht _).mpr ⟨i, hi, c, q1, q2, rfl, fun i' hi' => q4 i' (unionN_mem.mpr (.inr hi'))⟩
    by_cases h1 : i ∈ W
    · by_cases h2 : i ∈ U
      · exact .inl ⟨inS h1, inT h2⟩
      · exact .inr (.inl ⟨inS h1, (g.uns q1 b1 q2).mpr h2⟩)
    · have h2 : i ∈ U := by
        rcases unionN_mem.mp hi with hi | hi
        · exact absurd hi h1
        · exact hi
      exact .inr (.inr ⟨inT h2, (h.uns q1 b1 q2).mpr h1⟩)
end
end KS
set_option maxHeartbeats 400000
namespace KS
open PySem PySem.Spec PyProof.Rows L2 DL
/-! ### dicts of any keys -/
section
variable {κ : Type} [DecidableEq κ] {kvs : List (κ × D)} {k : κ} {d v : D}
theorem valX_at : ∀ {kvs : List (κ × D)} {j : Nat}, (kvs.map (·.1)).Nodup → kvs[j]? = some (k, d) → valD kvs k = some d
  | [], j, _, h => by simp at h
  | p :: kvs, j, nd, h => by
    unfold valD
    rw [List.map_cons] at nd
    cases j with
    | zero =>
      have : p = (k, d) := by simpa using h
      subst this
      simp
    | succ j =>
      have hj : kvs[j]? = some (k, d) := by simpa using h
      have hm : k ∈ kvs.map (·.1) := List.mem_map.mpr ⟨_, List.mem_of_getElem? hj, rfl⟩
      have hne : ¬ p.1 = k := fun e => (List.nodup_cons.mp nd).1 (by rw [e]; exact hm)
      have := valX_at (List.nodup_cons.mp nd).2 hj
      unfold valD at this
      rw [List.find?_cons_of_neg (by simpa using hne)]
      exact this
theorem putX_no (h : k ∉ kvs.map (·.1)) (v : D) : putD kvs k v = kvs ++ [(k, v)] := by
  unfold putD
  rw [if_neg]
  rw [List.any_eq_true]
  rintro ⟨p, hp, e⟩
  exact h (List.mem_map.mpr ⟨p, hp, by simpa using e⟩)
theorem putX_at {j : Nat} (nd : (kvs.map (·.1)).Nodup) (h : kvs[j]? = some (k, d)) (v : D) : putD kvs k v = kvs.set j (k, v) := by
  have hjl := (List.getElem?_eq_some_iff.mp h).1
  unfold putD
  rw [if_pos (List.any_eq_true.mpr ⟨_, List.mem_of_getElem? h, by simp⟩)]
  apply List.ext_getElem?
  intro i
  rw [List.getElem?_map]
  by_cases hi : i = j
  · subst hi
    rw [List.getElem?_set_self hjl, h]
    simp
  · rw [List.getElem?_set_ne (fun z => hi z.symm)]
    cases e : kvs[i]? with
    | none => rfl
    | some p =>
      have hil := (List.getElem?_eq_some_iff.mp e).1
      have hne : ¬ p.1 = k := fun e2 => by
        have h1 : (kvs.map (·.1))[i]? = some k := by rw [List.getElem?_map, e]; simp [e2]
        have h2 : (kvs.map (·.1))[j]? = some k := by rw [List.getElem?_map, h]; rfl
        obtain ⟨a1, b1⟩ := List.getElem?_eq_some_iff.mp h1
        obtain ⟨a2, b2⟩ := List.getElem?_eq_some_iff.mp h2
        exact hi ((List.getElem_inj nd).mp (b1.trans b2.symm))
      simp [hne]
end
/-! ### law 08: what stands -/
def kk (b : Bool) : Str := if b then "b" else "a"
structure Ch8 where
  kp : Int
  num : Int
  val : Int
  sd : Nat
  key : Bool
structure Q8 where
  dc : List Dct
  ch : List Ch8
  kn : List Nat
  lk : List (Bool × List Int × Nat)
  lt : List (Bool × Shelf × Nat)
  tl : List (List Int)
  ds : List (List Nat)
/-- where the dict i stands behind the store -/
def adr (n i : Nat) : Nat := if i < 2 * n then 1 + i else i + 6
def setD (B n i : Nat) : D := .res (B + adr n i)
def ch8D (B n : Nat) (c : Ch8) : D := .tup [dInt c.kp, dInt c.num, dInt c.val, setD B n c.sd]
def lk8D (B n : Nat) (x : Bool × List Int × Nat) : D := .tup [.v (.str (kk x.1)), tupI x.2.1, setD B n x.2.2]
def lt8D (B n : Nat) (x : Bool × Shelf × Nat) : D := .tup [.v (.str (kk x.1)), letD (kk x.1) x.2.1, setD B n x.2.2]
def kn8K (j : Nat) : List Key := [.inl ((j / 2 : Nat) : Int), .inr (kk (decide (j % 2 = 1)))]
def kn8D (B n : Nat) (kn : List Nat) : List (List Key × D) := kn.mapIdx fun j i => (kn8K j, setD B n i)
def dk8 (L : List Nat) : MO := .dK (keysK L)
def tl8 (l : List (List Int)) : MO := .lst (l.map fun v => D.lst (intsD v))
def T8 (B n : Nat) (q : Q8) : Mem := .dT (kn8D B n q.kn) :: ((q.ds.take (2 * n)).map dk8 ++ ([.lst (q.ch.map (ch8D B n)), .lst (q.lk.map (lk8D B n)), .lst (q.lt.map (lt8D B n)), tl8 q.tl, tl8 q.tl] ++ (q.ds.drop (2 * n)).map dk8))
def B8 (M0 : Mem) (n : Nat) : Nat := M0.length + 1 + n
def mem8 (Cl : Addr) (M0 : Mem) (n : Nat) (q : Q8) : Mem := memS Cl M0 n q.dc (T8 (B8 M0 n) n q)
def kid (b : Bool) (k : Nat) : Nat := 2 * k + (if b then 1 else 0)
theorem kn8K_kid (b : Bool) (k : Nat) : kn8K (kid b k) = [.inl ((k : Nat) : Int), .inr (kk b)] := by
  unfold kn8K kid
  cases b
  · have e1 : (2 * k + (if false = true then 1 else 0)) / 2 = k := by simp
    have e2 : (2 * k + (if false = true then 1 else 0)) % 2 = 0 := by simp
    rw [e1, e2]; rfl
  · have e1 : (2 * k + (if true = true then 1 else 0)) / 2 = k := by simp; omega
    have e2 : (2 * k + (if true = true then 1 else 0)) % 2 = 1 := by simp
    rw [e1, e2]; rfl
theorem kid_lt {b : Bool} {k n : Nat} (h : k < n) : kid b k < 2 * n := by
  unfold kid
  split <;> omega
theorem kid_inj {b b' : Bool} {k k' : Nat} (h : kid b k = kid b' k') : b = b' ∧ k = k' := by
  unfold kid at h
  cases b <;> cases b' <;> simp at h ⊢ <;> omega
theorem kk_inj {b b' : Bool} (h : kk b = kk b') : b = b' := by
  have : ∀ b b', kk b = kk b' → b = b' := by decide +kernel
  exact this b b' h
theorem kn8K_inj {j j' : Nat} (h : kn8K j = kn8K j') : j = j' := by
  unfold kn8K at h
  obtain ⟨h1, h2⟩ := List.cons.inj h
  have e1 := Sum.inl.inj h1
  have e2 := kk_inj (Sum.inr.inj (List.cons.inj h2).1)
  have e3 : (j % 2 = 1) ↔ (j' % 2 = 1) := decide_eq_decide.mp e2
  omega
section
variable {Cl : Addr} {M0 : Mem} {n B : Nat} {q : Q8}
theorem kn8D_fst (kn : List Nat) : (kn8D B n kn).map (·.1) = (List.range kn.length).map kn8K := by
  unfold kn8D
  apply List.ext_getElem?
  intro i
  rw [List.getElem?_map, List.getElem?_mapIdx, List.getElem?_map]
  by_cases h : i < kn.length
  · rw [List.getElem?_eq_getElem h, List.getElem?_range h]; rfl
  · rw [List.getElem?_eq_none (by omega), List.getElem?_eq_none (by rw [List.length_range]; omega)]; rfl
theorem kn8D_nd (kn : List Nat) : ((kn8D B n kn).map (·.1)).Nodup := by
  rw [kn8D_fst]
  exact List.pairwise_map.mpr (List.nodup_range.imp fun {a b} hne e => hne (kn8K_inj e))
theorem kn8D_at {kn : List Nat} {j i : Nat} (h : kn[j]? = some i) : (kn8D B n kn)[j]? = some (kn8K j, setD B n i) := by
  unfold kn8D
  rw [List.getElem?_mapIdx, h]; rfl
theorem kn8D_val {kn : List Nat} {b : Bool} {k i : Nat} (h : kn[kid b k]? = some i) : valD (kn8D B n kn) [.inl ((k : Nat) : Int), .inr (kk b)] = some (setD B n i) := by
  rw [← kn8K_kid]
  exact valX_at (kn8D_nd kn) (kn8D_at h)
theorem kn8D_put {kn : List Nat} {b : Bool} {k i : Nat} (h : kid b k < kn.length) (i' : Nat) : putD (kn8D B n kn) [.inl ((k : Nat) : Int), .inr (kk b)] (setD B n i') = kn8D B n (kn.set (kid b k) i') := by
  rw [← kn8K_kid, putX_at (kn8D_nd kn) (kn8D_at (List.getElem?_eq_getElem h))]
  unfold kn8D
  apply List.ext_getElem?
  intro j
  rw [List.getElem?_mapIdx]
  by_cases hj : j = kid b k
  · subst hj
    rw [List.getElem?_set_self (by rw [List.length_mapIdx]; exact h), List.getElem?_set_self h]; rfl
  · rw [List.getElem?_set_ne (fun z => hj z.symm), List.getElem?_set_ne (fun z => hj z.symm), List.getElem?_mapIdx]
theorem kn8D_len (kn : List Nat) : (kn8D B n kn).length = kn.length := by unfold kn8D; rw [List.length_mapIdx]
theorem T8_len (h : 2 * n ≤ q.ds.length) : (T8 B n q).length = q.ds.length + 6 := by
  unfold T8
  simp only [List.length_cons, List.length_append, List.length_map, List.length_take, List.length_drop, List.length_nil]
  omega
theorem T8_set (h : 2 * n ≤ q.ds.length) {i : Nat} (hi : i < q.ds.length) : (T8 B n q)[adr n i]? = some (dk8 (q.ds.getD i [])) := by
  have e : q.ds[i]? = some (q.ds.getD i []) := by rw [List.getD_eq_getElem?_getD, List.getElem?_eq_getElem hi]; rfl
  unfold T8 adr
  split
  · rename_i hlt
    rw [Nat.add_comm 1 i, List.getElem?_cons_succ, List.getElem?_append_left (by rw [List.length_map, List.length_take]; omega), List.getElem?_map, List.getElem?_take_of_lt hlt, e]; rfl
  · rename_i hge
    rw [List.getElem?_cons_succ, List.getElem?_append_right (by rw [List.length_map, List.length_take]; omega), List.length_map, List.length_take]
    rw [Nat.min_eq_left h, List.getElem?_append_right (by simp; omega)]
    have e2 : i + 5 - 2 * n - [MO.lst (q.ch.map (ch8D B n)), .lst (q.lk.map (lk8D B n)), .lst (q.lt.map (lt8D B n)), tl8 q.tl, tl8 q.tl].length = i - 2 * n := by
      simp only [List.length_cons, List.length_nil]; omega
    rw [e2, List.getElem?_map, List.getElem?_drop]
    have e3 : 2 * n + (i - 2 * n) = i := by omega
    rw [e3, e]; rfl
theorem T8_mid (h : 2 * n ≤ q.ds.length) {j : Nat} (hj : j < 5) : (T8 B n q)[2 * n + 1 + j]? = [MO.lst (q.ch.map (ch8D B n)), .lst (q.lk.map (lk8D B n)), .lst (q.lt.map (lt8D B n)), tl8 q.tl, tl8 q.tl][j]? := by
  unfold T8
  have e : 2 * n + 1 + j = (2 * n + j) + 1 := by omega
  rw [e, List.getElem?_cons_succ, List.getElem?_append_right (by rw [List.length_map, List.length_take]; omega), List.length_map, List.length_take, Nat.min_eq_left h]
  have e2 : 2 * n + j - 2 * n = j := by omega
  rw [e2, List.getElem?_append_left (by simpa using hj)]
theorem T8_mset (h : 2 * n ≤ q.ds.length) {j : Nat} (hj : j < 5) (x : MO) : (T8 B n q).set (2 * n + 1 + j) x = .dT (kn8D B n q.kn) :: ((q.ds.take (2 * n)).map dk8 ++ ([MO.lst (q.ch.map (ch8D B n)), .lst (q.lk.map (lk8D B n)), .lst (q.lt.map (lt8D B n)), tl8 q.tl, tl8 q.tl].set j x ++ (q.ds.drop (2 * n)).map dk8)) := by
  unfold T8
  have e : 2 * n + 1 + j = (2 * n + j) + 1 := by omega
  have hl : ((q.ds.take (2 * n)).map dk8).length = 2 * n := by rw [List.length_map, List.length_take, Nat.min_eq_left h]
  rw [e, List.set_cons_succ]
  conv => lhs; rw [show 2 * n + j = ((q.ds.take (2 * n)).map dk8).length + j by rw [hl]]
  rw [set_app, List.set_append_left _ _ (by simpa using hj)]
theorem T8_new (h : 2 * n ≤ q.ds.length) (L : List Nat) : T8 B n q ++ [dk8 L] = T8 B n { q with ds := q.ds ++ [L] } := by
  unfold T8
  show _ = .dT (kn8D B n q.kn) :: (((q.ds ++ [L]).take (2 * n)).map dk8 ++ (_ ++ ((q.ds ++ [L]).drop (2 * n)).map dk8))
  rw [List.take_append_of_le_length h, List.drop_append_of_le_length h, List.map_append]
  simp [List.append_assoc]
theorem adr_last (h : 2 * n ≤ q.ds.length) : adr n q.ds.length = q.ds.length + 6 := by
  unfold adr
  rw [if_neg (by omega)]
theorem mem8_get (hd : q.dc.length = n) (j : Nat) : (mem8 Cl M0 n q)[B8 M0 n + j]? = (T8 (B8 M0 n) n q)[j]? := memS_tail hd j
theorem mem8_tset (hd : q.dc.length = n) (j : Nat) (x : MO) : (mem8 Cl M0 n q).set (B8 M0 n + j) x = memS Cl M0 n q.dc ((T8 (B8 M0 n) n q).set j x) := memS_tset hd j x
theorem mem8_len (hd : q.dc.length = n) (h : 2 * n ≤ q.ds.length) : (mem8 Cl M0 n q).length = B8 M0 n + (q.ds.length + 6) := by
  unfold mem8
  rw [memS_len hd, T8_len h]; rfl
theorem mem8_new (hd : q.dc.length = n) (h : 2 * n ≤ q.ds.length) (L : List Nat) : mem8 Cl M0 n q ++ [.dK (keysK L)] = mem8 Cl M0 n { q with ds := q.ds ++ [L] } ∧ D.res (mem8 Cl M0 n q).length = setD (B8 M0 n) n q.ds.length := by
  refine ⟨?_, ?_⟩
  · unfold mem8
    rw [memS_app]
    exact congrArg (memS Cl M0 n q.dc) (T8_new h L)
  · rw [mem8_len hd h]
    unfold setD
    rw [adr_last h]
theorem mem8_st (hd : q.dc.length = n) : StoreAt Cl (mem8 Cl M0 n q) M0.length (isOf M0.length n) q.dc := memS_st hd
theorem mem8_at (hd : q.dc.length = n) {k : Nat} (hk : k < n) : At Cl (mem8 Cl M0 n q) M0.length k (M0.length + 1 + k) n (isOf M0.length n) q.dc (q.dc.getD k []) := memS_at hd hk
theorem mem8_dc (hd : q.dc.length = n) {k : Nat} (hk : k < n) (d : Dct) : (mem8 Cl M0 n q).set (M0.length + 1 + k) (.dK (dcD d)) = mem8 Cl M0 n { q with dc := q.dc.set k d } := memS_set hd hk d
theorem mem8_set (hd : q.dc.length = n) (h : 2 * n ≤ q.ds.length) {i : Nat} (hi : i < q.ds.length) : (mem8 Cl M0 n q)[B8 M0 n + adr n i]? = some (.dK (keysK (q.ds.getD i []))) := by
  rw [mem8_get hd, T8_set h hi]; rfl
theorem mem8_kn (hd : q.dc.length = n) : (mem8 Cl M0 n q)[B8 M0 n]? = some (.dT (kn8D (B8 M0 n) n q.kn)) := mem8_get hd 0
theorem mem8_kns (hd : q.dc.length = n) (kn : List Nat) : (mem8 Cl M0 n q).set (B8 M0 n) (.dT (kn8D (B8 M0 n) n kn)) = mem8 Cl M0 n { q with kn := kn } := mem8_tset hd 0 _
theorem mem8_ch (hd : q.dc.length = n) (h : 2 * n ≤ q.ds.length) : (mem8 Cl M0 n q)[B8 M0 n + (2 * n + 1)]? = some (.lst (q.ch.map (ch8D (B8 M0 n) n))) := (mem8_get hd _).trans (T8_mid h (j := 0) (by decide))
theorem mem8_lk (hd : q.dc.length = n) (h : 2 * n ≤ q.ds.length) : (mem8 Cl M0 n q)[B8 M0 n + (2 * n + 2)]? = some (.lst (q.lk.map (lk8D (B8 M0 n) n))) := (mem8_get hd _).trans (T8_mid h (j := 1) (by decide))
theorem mem8_lt (hd : q.dc.length = n) (h : 2 * n ≤ q.ds.length) : (mem8 Cl M0 n q)[B8 M0 n + (2 * n + 3)]? = some (.lst (q.lt.map (lt8D (B8 M0 n) n))) := (mem8_get hd _).trans (T8_mid h (j := 2) (by decide))
theorem mem8_chs (hd : q.dc.length = n) (h : 2 * n ≤ q.ds.length) (c : Ch8) : (mem8 Cl M0 n q).set (B8 M0 n + (2 * n + 1)) (.lst (q.ch.map (ch8D (B8 M0 n) n) ++ [ch8D (B8 M0 n) n c])) = mem8 Cl M0 n { q with ch := q.ch ++ [c] } := by
  rw [mem8_tset hd]
  refine congrArg (memS Cl M0 n q.dc) ((T8_mset h (j := 0) (by decide) _).trans ?_)
  unfold T8
  rw [List.map_append]; rfl
theorem mem8_lks (hd : q.dc.length = n) (h : 2 * n ≤ q.ds.length) (c : Bool × List Int × Nat) : (mem8 Cl M0 n q).set (B8 M0 n + (2 * n + 2)) (.lst (q.lk.map (lk8D (B8 M0 n) n) ++ [lk8D (B8 M0 n) n c])) = mem8 Cl M0 n { q with lk := q.lk ++ [c] } := by
  rw [mem8_tset hd]
  refine congrArg (memS Cl M0 n q.dc) ((T8_mset h (j := 1) (by decide) _).trans ?_)
  unfold T8
  rw [List.map_append]; rfl
theorem mem8_lts (hd : q.dc.length = n) (h : 2 * n ≤ q.ds.length) (c : Bool × Shelf × Nat) : (mem8 Cl M0 n q).set (B8 M0 n + (2 * n + 3)) (.lst (q.lt.map (lt8D (B8 M0 n) n) ++ [lt8D (B8 M0 n) n c])) = mem8 Cl M0 n { q with lt := q.lt ++ [c] } := by
  rw [mem8_tset hd]
  refine congrArg (memS Cl M0 n q.dc) ((T8_mset h (j := 2) (by decide) _).trans ?_)
  unfold T8
  rw [List.map_append]; rfl
/-- the dict just made grows -/
theorem mem8_last (hd : q.dc.length = n) (h : 2 * n ≤ q.ds.length) (L L' : List Nat) : (mem8 Cl M0 n { q with ds := q.ds ++ [L] }).set (B8 M0 n + adr n q.ds.length) (.dK (keysK L')) = mem8 Cl M0 n { q with ds := q.ds ++ [L'] } := by
  have e := (mem8_tset (Cl := Cl) (M0 := M0) (q := { q with ds := q.ds ++ [L] }) hd (adr n q.ds.length) (dk8 L'))
  refine e.trans (congrArg (memS Cl M0 n q.dc) ?_)
  have h1 := T8_new (B := B8 M0 n) (q := q) h L
  have h2 := T8_new (B := B8 M0 n) (q := q) h L'
  have h3 := T8_len (B := B8 M0 n) (q := q) h
  rw [← h1, ← h2, adr_last h, ← h3]
  have := set_app (T8 (B8 M0 n) n q) [dk8 L] 0 (dk8 L')
  exact this
end
end KS
set_option maxHeartbeats 400000
namespace KS
open PySem PySem.Spec PyProof.Rows L2 DL
section
variable {A : List ACh} {n : Nat} {own own' : Nat → Int} {b : Bool} {W U : List Nat} {m u : List Int}
theorem CoW.ow (h : CoW A n own b W m) (ho : ∀ j, j < n → own j ≤ own' j) : CoW A n own' b W m := ⟨h.nd, h.lt, h.cl, h.len, h.tl, h.nn, fun j hj => Int.le_trans (h.le j hj) (ho j hj)⟩
theorem NumA.ow (h : NumA A n own b) (ho : ∀ j, j < n → own' j = own j) : NumA A n own' b := by
  refine ⟨fun i c q1 q2 q3 => ?_, h.uniq, fun j hj x h1 h2 => h.ex j hj x h1 (by rw [← ho j hj]; exact h2), h.old⟩
  obtain ⟨r1, r2, r3⟩ := h.rng i c q1 q2 q3
  exact ⟨r1, r2, by rw [ho _ (by omega)]; exact r3⟩
theorem NumA.app (h : NumA A n own b) {c : ACh} (h0 : ∀ j, j < n → 0 ≤ own j) (hs : ∀ j ∈ c.seen, j < A.length) (hc : c.key = b → 0 ≤ c.kp → c.kp < n ∧ c.num = own c.kp.toNat + 1 ∧ own' c.kp.toNat = c.num)
    (ho : ∀ j, j < n → own' j = own j ∨ (c.key = b ∧ c.kp = (j : Int) ∧ own' j = own j + 1)) : NumA (A ++ [c]) n own' b := by
  refine ⟨fun i x q1 q2 q3 => ?_, fun i i' x x' q1 q1' q2 q2' q3 q4 q5 => ?_, fun j hj x h1 h2 => ?_, fun i x q1 j hj => ?_⟩
  · rcases getApp A c q1 with q1 | ⟨rfl, rfl⟩
    · obtain ⟨r1, r2, r3⟩ := h.rng i x q1 q2 q3
      refine ⟨r1, r2, ?_⟩
      rcases ho x.kp.toNat (by omega) with e | ⟨_, _, e⟩ <;> omega
    · obtain ⟨r1, r2, r3⟩ := hc q2 q3
      have := h0 x.kp.toNat (by omega)
      exact ⟨r1, by omega, by omega⟩
  · rcases getApp A c q1 with w1 | ⟨e1, e2⟩ <;> rcases getApp A c q1' with w1' | ⟨e1', e2'⟩
    · exact h.uniq i i' x x' w1 w1' q2 q2' q3 q4 q5
    · rw [e2'] at q2' q4 q5
      obtain ⟨r1, r2, r3⟩ := h.rng i x w1 q2 q3
      obtain ⟨p1, p2, p3⟩ := hc q2' (by omega)
      rw [← q4] at p2
      omega
    · rw [e2] at q2 q3 q4 q5
      obtain ⟨r1, r2, r3⟩ := h.rng i' x' w1' q2' (by omega)
      obtain ⟨p1, p2, p3⟩ := hc q2 q3
      rw [← q4] at r3
      omega
    · rw [e1, e1']
  · rcases ho j hj with e | ⟨e1, e2, e3⟩
    · obtain ⟨i, x', r1, r2, r3, r4⟩ := h.ex j hj x h1 (by omega)
      exact ⟨i, x', getApp' A c r1, r2, r3, r4⟩
    · by_cases hx : x ≤ own j
      · obtain ⟨i, x', r1, r2, r3, r4⟩ := h.ex j hj x h1 hx
        exact ⟨i, x', getApp' A c r1, r2, r3, r4⟩
      · obtain ⟨p1, p2, p3⟩ := hc e1 (by omega)
        rw [e2, Int.toNat_natCast] at p2 p3
        exact ⟨A.length, c, getLast' A c, e1, e2, by omega⟩
  · rcases getApp A c q1 with q1 | ⟨rfl, rfl⟩
    · exact h.old i x q1 j hj
    · exact hs j hj
/-- the set of a put or a drop -/
theorem CoW.step (h : CoW A n own b W m) (g : CoW A n own b U u) {c : ACh} {m' : List Int} (hk : c.key = b) (hs : c.seen = U) (hl : m'.length = n) (hm : ∀ j : Nat, j < n → m'.getD j 0 = if 0 ≤ c.kp ∧ c.kp = (j : Int) then c.num else max (m.getD j 0) (u.getD j 0))
    (hnn : ∀ j : Nat, 0 ≤ m'.getD j 0) (hnum : 0 ≤ c.kp → c.kp < n ∧ c.num = own c.kp.toNat + 1 ∧ m.getD c.kp.toNat 0 = own c.kp.toNat) (hn : NumA A n own b) (ho : ∀ j, j < n → m'.getD j 0 ≤ own' j) :
    CoW (A ++ [c]) n own' b (addN (unionN W U) A.length) m' := by
  refine ⟨addN_nd (unionN_nd h.nd) _, fun i hi => ?_, fun i hi x hx j hj => ?_, hl, fun i x q1 q2 q3 => ?_, hnn, ho⟩
  · rcases addN_mem.mp hi with hi | rfl
    · rcases unionN_mem.mp hi with hi | hi
      · obtain ⟨x, r1, r2⟩ := h.lt i hi
        exact ⟨x, getApp' A c r1, r2⟩
      · obtain ⟨x, r1, r2⟩ := g.lt i hi
        exact ⟨x, getApp' A c r1, r2⟩
    · exact ⟨c, getLast' A c, hk⟩
  · rcases getApp A c hx with hx | ⟨rfl, rfl⟩
    · rcases addN_mem.mp hi with hi | rfl
      · rcases unionN_mem.mp hi with hi | hi
        · exact addN_mem.mpr (.inl (unionN_mem.mpr (.inl (h.cl i hi x hx j hj))))
        · exact addN_mem.mpr (.inl (unionN_mem.mpr (.inr (g.cl i hi x hx j hj))))
      · have := (List.getElem?_eq_some_iff.mp hx).1; omega
    · rw [hs] at hj
      exact addN_mem.mpr (.inl (unionN_mem.mpr (.inr hj)))
  · rcases getApp A c q1 with q1 | ⟨rfl, rfl⟩
    · obtain ⟨r1, r2, r3⟩ := hn.rng i x q1 q2 q3
      have hil := (List.getElem?_eq_some_iff.mp q1).1
      have e1 : i ∈ addN (unionN W U) A.length ↔ i ∈ W ∨ i ∈ U := by
        rw [addN_mem, unionN_mem]
        constructor
        · rintro (h | rfl)
          · exact h
          · omega
        · exact .inl
      rw [e1, h.tl i x q1 q2 q3, g.tl i x q1 q2 q3, hm x.kp.toNat (by omega)]
      split
      · rename_i hc
        obtain ⟨p1, p2, p3⟩ := hnum hc.1
        have ek : c.kp.toNat = x.kp.toNat := by omega
        rw [ek] at p2 p3
        constructor
        · intro _; omega
        · intro _; left; omega
      · omega
    · obtain ⟨p1, p2, p3⟩ := hnum q3
      rw [hm x.kp.toNat (by omega), if_pos ⟨q3, by omega⟩]
      exact ⟨fun _ => Int.le_refl _, fun _ => addN_mem.mpr (.inr rfl)⟩
end
/-! ### what is kept -/
def A8 (q : Q8) : List ACh := q.ch.map fun c => ⟨c.kp, c.num, c.val, q.ds.getD c.sd [], c.key⟩
def sh8 (n : Nat) (q : Q8) (b : Bool) (k : Nat) : Shelf := getS n (q.dc.getD k []) (kk b)
def W8 (q : Q8) (i : Nat) : List Nat := q.ds.getD i []
def K8 (q : Q8) (b : Bool) (k : Nat) : List Nat := W8 q (q.kn.getD (kid b k) 0)
def own8 (n : Nat) (q : Q8) (b : Bool) (j : Nat) : Int := (sh8 n q b j).1.getD j 0
structure Ok8 (n t : Nat) (q : Q8) : Prop where
  dl : q.dc.length = n
  kl : q.kn.length = 2 * n
  kb : ∀ i ∈ q.kn, i < q.ds.length
  dsl : 2 * n ≤ q.ds.length
  dsz : ∀ L ∈ q.ds, L.Nodup ∧ ∀ i ∈ L, i < q.ch.length
  cs : ∀ c ∈ q.ch, c.sd < q.ds.length
  chl : q.ch.length ≤ t
  lkl : q.lk.length ≤ t
  ltl : q.lt.length ≤ t
  num : ∀ b, NumA (A8 q) n (own8 n q b) b
  sh : ∀ b k, k < n → CoW (A8 q) n (own8 n q b) b (K8 q b k) (sh8 n q b k).1 ∧ Std (A8 q) (K8 q b k) (sh8 n q b k).2
  lk : ∀ x ∈ q.lk, x.2.2 < q.ds.length ∧ CoW (A8 q) n (own8 n q x.1) x.1 (W8 q x.2.2) x.2.1
  lt : ∀ x ∈ q.lt, x.2.2 < q.ds.length ∧ CoW (A8 q) n (own8 n q x.1) x.1 (W8 q x.2.2) x.2.1.1 ∧ Std (A8 q) (W8 q x.2.2) x.2.1.2
  gs : ∀ b, ∃ G, G.length ≤ t ∧ (∀ k, k < n → GS n G (sh8 n q b k)) ∧ ∀ x ∈ q.lt, x.1 = b → GS n G x.2.1
  dk : ∀ d ∈ q.dc, (d.map (·.1)).Nodup ∧ ∀ p ∈ d, ∃ b, p.1 = kk b
section
variable {n t : Nat} {q : Q8}
theorem W8_old {L : List Nat} {i : Nat} (h : i < q.ds.length) : W8 { q with ds := q.ds ++ [L] } i = W8 q i := by
  unfold W8
  rw [List.getD_eq_getElem?_getD, List.getD_eq_getElem?_getD]
  show ((q.ds ++ [L])[i]?).getD [] = _
  rw [List.getElem?_append_left h]
theorem W8_new {L : List Nat} : W8 { q with ds := q.ds ++ [L] } q.ds.length = L := by
  unfold W8
  show (q.ds ++ [L]).getD q.ds.length [] = L
  rw [List.getD_eq_getElem?_getD]
  simp
theorem A8_old {L : List Nat} (h : ∀ c ∈ q.ch, c.sd < q.ds.length) : A8 { q with ds := q.ds ++ [L] } = A8 q := by
  unfold A8
  refine List.map_congr_left fun c hc => ?_
  have := W8_old (q := q) (L := L) (h c hc)
  unfold W8 at this
  show ACh.mk c.kp c.num c.val ((q.ds ++ [L]).getD c.sd []) c.key = _
  rw [this]
theorem Ok8.kn (h : Ok8 n t q) {b : Bool} {k : Nat} (hk : k < n) : q.kn[kid b k]? = some (q.kn.getD (kid b k) 0) ∧ q.kn.getD (kid b k) 0 < q.ds.length := by
  have hl := kid_lt (b := b) hk
  have hl2 : kid b k < q.kn.length := by rw [h.kl]; exact hl
  refine ⟨by rw [List.getD_eq_getElem?_getD, List.getElem?_eq_getElem hl2]; rfl, h.kb _ (mem_getD hl2)⟩
/-- one more dict -/
theorem Ok8.newd (h : Ok8 n t q) {L : List Nat} (hL : L.Nodup ∧ ∀ i ∈ L, i < q.ch.length) : Ok8 n t { q with ds := q.ds ++ [L] } := by
  have eA : A8 { q with ds := q.ds ++ [L] } = A8 q := A8_old h.cs
  have hlen : (q.ds ++ [L]).length = q.ds.length + 1 := by simp
  refine ⟨h.dl, h.kl, fun i hi => ?_, ?_, fun L' hL' => ?_, fun c hc => ?_, h.chl, h.lkl, h.ltl, fun b => by rw [eA]; exact h.num b, fun b k hk => ?_, fun x hx => ?_, fun x hx => ?_, h.gs, h.dk⟩
  · have := h.kb i hi
    show i < (q.ds ++ [L]).length
    omega
  · have := h.dsl
    show 2 * n ≤ (q.ds ++ [L]).length
    omega
  · rcases List.mem_append.mp hL' with hL' | hL'
    · exact h.dsz L' hL'
    · have : L' = L := by simpa using hL'
      subst this
      exact hL
  · have := h.cs c hc
    show c.sd < (q.ds ++ [L]).length
    omega
  · rw [eA]
    have e : K8 { q with ds := q.ds ++ [L] } b k = K8 q b k := W8_old (h.kn hk).2
    rw [e]
    exact h.sh b k hk
  · obtain ⟨h1, h2⟩ := h.lk x hx
    rw [eA, W8_old h1]
    exact ⟨by show x.2.2 < (q.ds ++ [L]).length; omega, h2⟩
  · obtain ⟨h1, h2, h3⟩ := h.lt x hx
    rw [eA, W8_old h1]
    exact ⟨by show x.2.2 < (q.ds ++ [L]).length; omega, h2, h3⟩
theorem Ok8.later (h : Ok8 n t q) : Ok8 n (t + 1) q := { h with
  chl := Nat.le_trans h.chl (by omega)
  lkl := Nat.le_trans h.lkl (by omega)
  ltl := Nat.le_trans h.ltl (by omega)
  gs := fun b => let ⟨G, a, c, d⟩ := h.gs b; ⟨G, by omega, c, d⟩ }
theorem Ok8.set (h : Ok8 n t q) {i : Nat} (hi : i < q.ds.length) : (W8 q i).Nodup ∧ ∀ j ∈ W8 q i, j < q.ch.length := h.dsz _ (mem_getD hi)
/-- a look that is remembered -/
theorem Ok8.look (h : Ok8 n t q) {b : Bool} {k : Nat} (hk : k < n) : Ok8 n (t + 1) { q with lk := q.lk ++ [(b, (sh8 n q b k).1, q.ds.length)], ds := q.ds ++ [K8 q b k] } := by
  have hd := (h.newd (h.set (h.kn (b := b) hk).2)).later
  have hl := h.lkl
  refine { hd with lkl := ?_, lk := fun x hx => ?_ }
  · show (q.lk ++ [_]).length ≤ t + 1
    rw [List.length_append, List.length_singleton]; omega
  · rcases List.mem_append.mp hx with hx | hx
    · exact hd.lk x hx
    · have : x = (b, (sh8 n q b k).1, q.ds.length) := by simpa using hx
      subst this
      refine ⟨by show q.ds.length < (q.ds ++ [_]).length; simp, ?_⟩
      have e : W8 { q with lk := q.lk ++ [(b, (sh8 n q b k).1, q.ds.length)], ds := q.ds ++ [K8 q b k] } q.ds.length = K8 q b k := W8_new (q := q)
      have e2 : A8 { q with lk := q.lk ++ [(b, (sh8 n q b k).1, q.ds.length)], ds := q.ds ++ [K8 q b k] } = A8 q := A8_old h.cs
      show CoW _ n _ b _ (sh8 n q b k).1
      rw [e, e2]
      exact (h.sh b k hk).1
/-- a letter -/
theorem Ok8.letter (h : Ok8 n t q) {b : Bool} {k : Nat} (hk : k < n) : Ok8 n (t + 1) { q with lt := q.lt ++ [(b, sh8 n q b k, q.ds.length)], ds := q.ds ++ [K8 q b k] } := by
  have hd := (h.newd (h.set (h.kn (b := b) hk).2)).later
  have hl := h.ltl
  refine { hd with ltl := ?_, lt := fun x hx => ?_, gs := fun b' => ?_ }
  · show (q.lt ++ [_]).length ≤ t + 1
    rw [List.length_append, List.length_singleton]; omega
  · rcases List.mem_append.mp hx with hx | hx
    · exact hd.lt x hx
    · have : x = (b, sh8 n q b k, q.ds.length) := by simpa using hx
      subst this
      refine ⟨by show q.ds.length < (q.ds ++ [_]).length; simp, ?_⟩
      have e : W8 { q with lt := q.lt ++ [(b, sh8 n q b k, q.ds.length)], ds := q.ds ++ [K8 q b k] } q.ds.length = K8 q b k := W8_new (q := q)
      have e2 : A8 { q with lt := q.lt ++ [(b, sh8 n q b k, q.ds.length)], ds := q.ds ++ [K8 q b k] } = A8 q := A8_old h.cs
      show CoW _ n _ b _ (sh8 n q b k).1 ∧ Std _ _ (sh8 n q b k).2
      rw [e, e2]
      exact h.sh b k hk
  · obtain ⟨G, g1, g2, g3⟩ := hd.gs b'
    refine ⟨G, g1, g2, fun x hx e => ?_⟩
    rcases List.mem_append.mp hx with hx | hx
    · exact g3 x hx e
    · have : x = (b, sh8 n q b k, q.ds.length) := by simpa using hx
      subst this
      have e' : b = b' := e
      subst e'
      exact g2 k hk
end
end KS
set_option maxHeartbeats 400000
namespace KS
open PySem PySem.Spec PyProof.Rows L2 DL
section
variable {n t : Nat} {q q' : Q8} {b : Bool} {k : Nat} {s' : Shelf} {W' : List Nat}
theorem sh8_set (hk : k < q.dc.length) (e1 : q'.dc = q.dc.set k (putS (q.dc.getD k []) (kk b) s')) (b' : Bool) (k' : Nat) : sh8 n q' b' k' = if k' = k ∧ b' = b then s' else sh8 n q b' k' := by
  have := sh11_set (n := n) (dc := q.dc) (y := kk b) hk s' (kk b') k'
  unfold sh8
  rw [e1]
  refine this.trans ?_
  by_cases h : k' = k ∧ b' = b
  · obtain ⟨rfl, rfl⟩ := h
    rw [if_pos ⟨rfl, rfl⟩, if_pos ⟨rfl, rfl⟩]
  · rw [if_neg h, if_neg (fun z => h ⟨z.1, kk_inj z.2⟩)]; rfl
/-- a shelf changes, and what is known there -/
theorem Ok8.upd (h : Ok8 n t q) (hk : k < n) (e1 : q'.dc = q.dc.set k (putS (q.dc.getD k []) (kk b) s')) (e2 : q'.ds = q.ds ++ [W']) (e3 : q'.kn = q.kn.set (kid b k) q.ds.length) (e4 : q'.lk = q.lk) (e5 : q'.lt = q.lt)
    (hW : W'.Nodup ∧ ∀ i ∈ W', i < q'.ch.length) (hch : q.ch.length ≤ q'.ch.length ∧ q'.ch.length ≤ t + 1) (hcs : ∀ c ∈ q'.ch, c.sd < q.ds.length)
    (hco : ∀ b' W m, CoW (A8 q) n (own8 n q b') b' W m → CoW (A8 q') n (own8 n q' b') b' W m) (hst : ∀ W rows, (∀ i ∈ W, i < (A8 q).length) → Std (A8 q) W rows → Std (A8 q') W rows)
    (hnum : ∀ b', NumA (A8 q') n (own8 n q' b') b') (hnew : CoW (A8 q') n (own8 n q' b) b W' s'.1 ∧ Std (A8 q') W' s'.2)
    (hgs : ∃ G, G.length ≤ t + 1 ∧ GS n G s' ∧ (∀ k, k < n → GS n G (sh8 n q b k)) ∧ ∀ x ∈ q.lt, x.1 = b → GS n G x.2.1) : Ok8 n (t + 1) q' := by
  have hk2 : k < q.dc.length := by rw [h.dl]; exact hk
  have m := h.later
  have hlen : q'.ds.length = q.ds.length + 1 := by rw [e2]; simp
  have hold : ∀ i, i < q.ds.length → W8 q' i = W8 q i := fun i hi => by
    have := W8_old (q := q) (L := W') hi
    unfold W8 at this ⊢
    rw [e2]
    exact this
  have hnw : W8 q' q.ds.length = W' := by
    have := W8_new (q := q) (L := W')
    unfold W8 at this ⊢
    rw [e2]
    exact this
  have hkid := kid_lt (b := b) hk
  have hA : ∀ b' W m, CoW (A8 q) n (own8 n q b') b' W m → ∀ i ∈ W, i < (A8 q).length := fun b' W m hc => hc.lts
  refine ⟨by rw [e1, List.length_set]; exact h.dl, by rw [e3, List.length_set]; exact h.kl, fun i hi => ?_, by have := h.dsl; omega, fun L hL => ?_, fun c hc => by have := hcs c hc; omega, hch.2, by rw [e4]; exact m.lkl, by rw [e5]; exact m.ltl, hnum, fun b' k' hk' => ?_, fun x hx => ?_, fun x hx => ?_, fun b' => ?_, fun d hd => ?_⟩
  · rw [e3] at hi
    rcases List.mem_or_eq_of_mem_set hi with hi | rfl
    · have := h.kb i hi; omega
    · omega
  · rw [e2] at hL
    rcases List.mem_append.mp hL with hL | hL
    · obtain ⟨a, c⟩ := h.dsz L hL
      exact ⟨a, fun i hi => Nat.lt_of_lt_of_le (c i hi) hch.1⟩
    · have : L = W' := by simpa using hL
      subst this
      exact hW
  · rw [sh8_set hk2 e1]
    unfold K8
    rw [e3, getD_set (by rw [h.kl]; exact hkid)]
    by_cases e : k' = k ∧ b' = b
    · obtain ⟨rfl, rfl⟩ := e
      rw [if_pos rfl, hnw, if_pos ⟨rfl, rfl⟩]
      exact hnew
    · rw [if_neg e, if_neg (fun z => e ⟨(kid_inj z).2, (kid_inj z).1⟩), hold _ (h.kn hk').2]
      obtain ⟨a, c⟩ := h.sh b' k' hk'
      exact ⟨hco _ _ _ a, hst _ _ (hA _ _ _ a) c⟩
  · rw [e4] at hx
    obtain ⟨a, c⟩ := h.lk x hx
    rw [hold _ a]
    exact ⟨by omega, hco _ _ _ c⟩
  · rw [e5] at hx
    obtain ⟨a, c, d⟩ := h.lt x hx
    rw [hold _ a]
    exact ⟨by omega, hco _ _ _ c, hst _ _ (hA _ _ _ c) d⟩
  · by_cases e : b' = b
    · subst e
      obtain ⟨G, g1, g2, g3, g4⟩ := hgs
      refine ⟨G, g1, fun k' hk' => ?_, fun x hx => by rw [e5] at hx; exact g4 x hx⟩
      rw [sh8_set hk2 e1]
      split
      · exact g2
      · exact g3 k' hk'
    · obtain ⟨G, g1, g2, g3⟩ := m.gs b'
      refine ⟨G, g1, fun k' hk' => ?_, fun x hx => by rw [e5] at hx; exact g3 x hx⟩
      rw [sh8_set hk2 e1, if_neg (fun z => e z.2)]
      exact g2 k' hk'
  · rw [e1] at hd
    rcases List.mem_or_eq_of_mem_set hd with hd | rfl
    · exact h.dk d hd
    · obtain ⟨a, c⟩ := h.dk _ (mem_getD (d := []) hk2)
      refine ⟨putS_nd _ _ a, fun p hp => ?_⟩
      rcases putS_mem hp with e | hp
      · exact ⟨b, e⟩
      · exact c p hp
theorem A8_len (q : Q8) : (A8 q).length = q.ch.length := by unfold A8; rw [List.length_map]
theorem A8_app {L : List Nat} {c : Ch8} (h : ∀ c ∈ q.ch, c.sd < q.ds.length) (hc : c.sd < q.ds.length) (e1 : q'.ch = q.ch ++ [c]) (e2 : q'.ds = q.ds ++ [L]) : A8 q' = A8 q ++ [⟨c.kp, c.num, c.val, W8 q c.sd, c.key⟩] := by
  have h1 := A8_old (q := q) (L := L) h
  have h2 := W8_old (q := q) (L := L) hc
  unfold A8 W8 at *
  rw [e1, e2, List.map_append]
  have h1' : (q.ch.map fun c => ACh.mk c.kp c.num c.val ((q.ds ++ [L]).getD c.sd []) c.key) = q.ch.map fun c => ⟨c.kp, c.num, c.val, q.ds.getD c.sd [], c.key⟩ := h1
  have h2' : (q.ds ++ [L]).getD c.sd [] = q.ds.getD c.sd [] := h2
  rw [h1', List.map_cons, List.map_nil, h2']
theorem Ok8.own0 (h : Ok8 n t q) (b : Bool) {j : Nat} (hj : j < n) : 0 ≤ own8 n q b j := (h.sh b j hj).1.nn j
theorem own8_set (hk : k < q.dc.length) (e1 : q'.dc = q.dc.set k (putS (q.dc.getD k []) (kk b) s')) (b' : Bool) (j : Nat) : own8 n q' b' j = if j = k ∧ b' = b then s'.1.getD j 0 else own8 n q b' j := by
  unfold own8
  rw [sh8_set hk e1]
  split <;> rfl
/-- the sets of a put or a drop are sets -/
theorem Ok8.grown (h : Ok8 n t q) (hk : k < n) {ui : Nat} (hui : ui < q.ds.length) {m : Nat} (hm : m = q.ch.length) : (addN (unionN (K8 q b k) (W8 q ui)) m).Nodup ∧ ∀ i ∈ addN (unionN (K8 q b k) (W8 q ui)) m, i < q.ch.length + 1 := by
  obtain ⟨a1, a2⟩ := h.set (h.kn (b := b) hk).2
  obtain ⟨c1, c2⟩ := h.set hui
  refine ⟨addN_nd (unionN_nd a1) _, fun i hi => ?_⟩
  rcases addN_mem.mp hi with hi | rfl
  · rcases unionN_mem.mp hi with hi | hi
    · have := a2 i hi; omega
    · have := c2 i hi; omega
  · omega
/-- a put, by a hand with the mark u, which tells the set ui -/
theorem Ok8.put (h : Ok8 n t q) (hk : k < n) {u : List Int} {ui : Nat} (hui : ui < q.ds.length) (hu : CoW (A8 q) n (own8 n q b) b (W8 q ui) u) {v : Int}
    (hq : q' = { q with dc := q.dc.set k (putS (q.dc.getD k []) (kk b) (putShelf (sh8 n q b k) u k v)), ch := q.ch ++ [⟨(k : Int), own8 n q b k + 1, v, ui, b⟩], ds := q.ds ++ [addN (unionN (K8 q b k) (W8 q ui)) q.ch.length], kn := q.kn.set (kid b k) q.ds.length }) : Ok8 n (t + 1) q' := by
  have hk2 : k < q.dc.length := by rw [h.dl]; exact hk
  obtain ⟨hc, hs⟩ := h.sh b k hk
  have hl : (sh8 n q b k).1.length = u.length := by rw [hc.len, hu.len]
  have hkl : k < (sh8 n q b k).1.length := by rw [hc.len]; exact hk
  have eA : A8 q' = A8 q ++ [⟨(k : Int), own8 n q b k + 1, v, W8 q ui, b⟩] := A8_app (c := ⟨(k : Int), own8 n q b k + 1, v, ui, b⟩) h.cs hui (by rw [hq]) (by rw [hq])
  have e1 : q'.dc = q.dc.set k (putS (q.dc.getD k []) (kk b) (putShelf (sh8 n q b k) u k v)) := by rw [hq]
  have hpg : ∀ j : Nat, (putShelf (sh8 n q b k) u k v).1.getD j 0 = if j = k then own8 n q b k + 1 else max ((sh8 n q b k).1.getD j 0) (u.getD j 0) := fun j => put_getD hl hkl j
  have how : ∀ b' j, own8 n q' b' j = if j = k ∧ b' = b then own8 n q b k + 1 else own8 n q b' j := fun b' j => by
    rw [own8_set hk2 e1]
    by_cases e : j = k ∧ b' = b
    · rw [if_pos e, if_pos e, hpg, if_pos e.1]
    · rw [if_neg e, if_neg e]
  have hge : ∀ b' j, j < n → own8 n q b' j ≤ own8 n q' b' j := fun b' j _ => by
    rw [how]
    split
    · rename_i e
      obtain ⟨rfl, rfl⟩ := e
      omega
    · exact Int.le_refl _
  have hgr := h.grown (b := b) hk hui (m := q.ch.length) rfl
  have hchl := h.chl
  refine h.upd hk e1 (by rw [hq]) (by rw [hq]) (by rw [hq]) (by rw [hq]) ⟨hgr.1, fun i hi => ?_⟩ ?_ (fun c hc => ?_) (fun b' W m hw => ?_) (fun W rows hlt hw => ?_) (fun b' => ?_) ⟨?_, ?_⟩ ?_
  · have := hgr.2 i hi
    rw [hq]
    show i < (q.ch ++ [_]).length
    rw [List.length_append, List.length_singleton]; exact this
  · rw [hq]
    show q.ch.length ≤ (q.ch ++ [_]).length ∧ (q.ch ++ [_]).length ≤ t + 1
    rw [List.length_append, List.length_singleton]; omega
  · rw [hq] at hc
    rcases List.mem_append.mp hc with hc | hc
    · exact h.cs c hc
    · have : c = ⟨(k : Int), own8 n q b k + 1, v, ui, b⟩ := by simpa using hc
      subst this
      exact hui
  · rw [eA]
    refine hw.grow (hge b') (fun ek _ => ?_)
    have ek' : b = b' := ek
    subst ek'
    refine ⟨by show (k : Int) < n; omega, ?_⟩
    show own8 n q b (Int.toNat (k : Int)) < own8 n q b k + 1
    rw [Int.toNat_natCast]
    omega
  · rw [eA]
    exact hw.grow hlt _
  · rw [eA]
    refine (h.num b').app (fun j hj => h.own0 b' hj) (fun j hj => ?_) (fun ek _ => ?_) (fun j hj => ?_)
    · rw [A8_len]
      exact (h.set hui).2 j hj
    · have ek' : b = b' := ek
      subst ek'
      refine ⟨by show (k : Int) < n; omega, ?_, ?_⟩
      · show own8 n q b k + 1 = own8 n q b (Int.toNat (k : Int)) + 1
        rw [Int.toNat_natCast]
      · show own8 n q' b (Int.toNat (k : Int)) = own8 n q b k + 1
        rw [Int.toNat_natCast, how, if_pos ⟨rfl, rfl⟩]
    · rw [how]
      by_cases e : j = k ∧ b' = b
      · obtain ⟨rfl, rfl⟩ := e
        rw [if_pos ⟨rfl, rfl⟩]
        exact .inr ⟨rfl, rfl, rfl⟩
      · rw [if_neg e]
        exact .inl rfl
  · rw [eA, ← A8_len]
    refine hc.step hu rfl rfl ?_ (fun j hj => ?_) (fun j => ?_) (fun _ => ⟨by show (k : Int) < n; omega, ?_, ?_⟩) (h.num b) (fun j hj => ?_)
    · show ((joinI (sh8 n q b k).1 u).set k _).length = n
      rw [List.length_set, joinI_len hl]; exact hc.len
    · rw [hpg]
      by_cases e : j = k
      · rw [if_pos e, if_pos ⟨by show (0 : Int) ≤ (k : Int); omega, by show (k : Int) = j; omega⟩]
      · rw [if_neg e, if_neg (fun z => e (by have : (k : Int) = j := z.2; omega))]
    · rw [hpg]
      have a := hc.nn j
      have a2 := h.own0 b hk
      split
      · omega
      · omega
    · show own8 n q b k + 1 = own8 n q b (Int.toNat (k : Int)) + 1
      rw [Int.toNat_natCast]
    · show (sh8 n q b k).1.getD (Int.toNat (k : Int)) 0 = own8 n q b (Int.toNat (k : Int))
      rw [Int.toNat_natCast]; rfl
    · rw [hpg, how]
      have a := hc.le j hj
      have a2 := hu.le j hj
      by_cases e : j = k
      · rw [if_pos e, if_pos ⟨e, rfl⟩]; exact Int.le_refl _
      · rw [if_neg e, if_neg (fun z => e z.1)]; omega
  · rw [eA, ← A8_len]
    intro x
    rw [mem_put]
    have := Std.put hc hu hs (c := ⟨(k : Int), own8 n q b k + 1, v, W8 q ui, b⟩) rfl (by show (0 : Int) ≤ (k : Int); omega) (h.num b).old x
    rw [List.mem_filter] at this
    exact this
  · obtain ⟨G, g1, g2, g3⟩ := h.gs b
    refine ⟨G ++ [[(k : Int), (sh8 n q b k).1.getD k 0 + 1, v]], by rw [List.length_append, List.length_singleton]; omega, (g2 k hk).put hu.len hk, fun k' hk' => (g2 k' hk').mono fun x hx => List.mem_append_left _ hx, fun x hx e => (g3 x hx e).mono fun y hy => List.mem_append_left _ hy⟩
/-- a drop -/
theorem Ok8.drop (h : Ok8 n t q) (hk : k < n) {u : List Int} {ui : Nat} (hui : ui < q.ds.length) (hu : CoW (A8 q) n (own8 n q b) b (W8 q ui) u)
    (hq : q' = { q with dc := q.dc.set k (putS (q.dc.getD k []) (kk b) (dropShelf (sh8 n q b k) u)), ch := q.ch ++ [⟨-1, 0, 0, ui, b⟩], ds := q.ds ++ [addN (unionN (K8 q b k) (W8 q ui)) q.ch.length], kn := q.kn.set (kid b k) q.ds.length }) : Ok8 n (t + 1) q' := by
  have hk2 : k < q.dc.length := by rw [h.dl]; exact hk
  obtain ⟨hc, hs⟩ := h.sh b k hk
  have hl : (sh8 n q b k).1.length = u.length := by rw [hc.len, hu.len]
  have eA : A8 q' = A8 q ++ [⟨-1, 0, 0, W8 q ui, b⟩] := A8_app (c := ⟨-1, 0, 0, ui, b⟩) h.cs hui (by rw [hq]) (by rw [hq])
  have e1 : q'.dc = q.dc.set k (putS (q.dc.getD k []) (kk b) (dropShelf (sh8 n q b k) u)) := by rw [hq]
  have hpg : ∀ j : Nat, (dropShelf (sh8 n q b k) u).1.getD j 0 = max ((sh8 n q b k).1.getD j 0) (u.getD j 0) := fun j => joinI_getD hl j
  have how : ∀ b' j, j < n → own8 n q' b' j = own8 n q b' j := fun b' j hj => by
    rw [own8_set hk2 e1]
    by_cases e : j = k ∧ b' = b
    · obtain ⟨rfl, rfl⟩ := e
      rw [if_pos ⟨rfl, rfl⟩, hpg]
      have := hu.le j hj
      unfold own8 at this ⊢
      omega
    · rw [if_neg e]
  have hgr := h.grown (b := b) hk hui (m := q.ch.length) rfl
  have hchl := h.chl
  refine h.upd hk e1 (by rw [hq]) (by rw [hq]) (by rw [hq]) (by rw [hq]) ⟨hgr.1, fun i hi => ?_⟩ ?_ (fun c hc => ?_) (fun b' W m hw => ?_) (fun W rows hlt hw => ?_) (fun b' => ?_) ⟨?_, ?_⟩ ?_
  · have := hgr.2 i hi
    rw [hq]
    show i < (q.ch ++ [_]).length
    rw [List.length_append, List.length_singleton]; exact this
  · rw [hq]
    show q.ch.length ≤ (q.ch ++ [_]).length ∧ (q.ch ++ [_]).length ≤ t + 1
    rw [List.length_append, List.length_singleton]; omega
  · rw [hq] at hc
    rcases List.mem_append.mp hc with hc | hc
    · exact h.cs c hc
    · have : c = ⟨-1, 0, 0, ui, b⟩ := by simpa using hc
      subst this
      exact hui
  · rw [eA]
    exact hw.grow (fun j hj => by rw [how b' j hj]; exact Int.le_refl _) (fun _ z => absurd z (by show ¬ (0 : Int) ≤ -1; omega))
  · rw [eA]
    exact hw.grow hlt _
  · rw [eA]
    refine (h.num b').app (fun j hj => h.own0 b' hj) (fun j hj => ?_) (fun _ z => absurd z (by show ¬ (0 : Int) ≤ -1; omega)) (fun j hj => .inl (how b' j hj))
    rw [A8_len]
    exact (h.set hui).2 j hj
  · rw [eA, ← A8_len]
    refine hc.step hu rfl rfl (by show (joinI (sh8 n q b k).1 u).length = n; rw [joinI_len hl]; exact hc.len) (fun j hj => ?_) (fun j => ?_) (fun z => absurd z (by show ¬ (0 : Int) ≤ -1; omega)) (h.num b) (fun j hj => ?_)
    · rw [hpg, if_neg (fun z => absurd z.1 (by show ¬ (0 : Int) ≤ -1; omega))]
    · rw [hpg]
      have a := hc.nn j
      omega
    · rw [hpg, how b j hj]
      have a := hc.le j hj
      have a2 := hu.le j hj
      omega
  · rw [eA, ← A8_len]
    exact Std.drop hc hu hs rfl (by show ¬ (0 : Int) ≤ -1; omega)
  · obtain ⟨G, g1, g2, g3⟩ := h.gs b
    exact ⟨G, by omega, (g2 k hk).drop hu.len, g2, g3⟩
/-- a letter is taken -/
theorem Ok8.take (h : Ok8 n t q) (hk : k < n) {l : Shelf} {li : Nat} (hx : (b, l, li) ∈ q.lt)
    (hq : q' = { q with dc := q.dc.set k (putS (q.dc.getD k []) (kk b) (metShelf (sh8 n q b k) l.1 l.2)), ds := q.ds ++ [unionN (K8 q b k) (W8 q li)], kn := q.kn.set (kid b k) q.ds.length }) : Ok8 n (t + 1) q' := by
  have hk2 : k < q.dc.length := by rw [h.dl]; exact hk
  obtain ⟨hc, hs⟩ := h.sh b k hk
  obtain ⟨hli, hu, ht⟩ := h.lt _ hx
  have hl : (sh8 n q b k).1.length = l.1.length := by rw [hc.len, hu.len]
  have eA : A8 q' = A8 q := by
    have := A8_old (q := q) (L := unionN (K8 q b k) (W8 q li)) h.cs
    unfold A8 at this ⊢
    rw [hq]
    exact this
  have e1 : q'.dc = q.dc.set k (putS (q.dc.getD k []) (kk b) (metShelf (sh8 n q b k) l.1 l.2)) := by rw [hq]
  have hpg : ∀ j : Nat, (metShelf (sh8 n q b k) l.1 l.2).1.getD j 0 = max ((sh8 n q b k).1.getD j 0) (l.1.getD j 0) := fun j => joinI_getD hl j
  have how : ∀ b' j, j < n → own8 n q' b' j = own8 n q b' j := fun b' j hj => by
    rw [own8_set hk2 e1]
    by_cases e : j = k ∧ b' = b
    · obtain ⟨rfl, rfl⟩ := e
      rw [if_pos ⟨rfl, rfl⟩, hpg]
      have : l.1.getD j 0 ≤ own8 n q b' j := hu.le j hj
      unfold own8 at this ⊢
      omega
    · rw [if_neg e]
  have hchl := h.chl
  obtain ⟨a1, a2⟩ := h.set (h.kn (b := b) hk).2
  obtain ⟨c1, c2⟩ := h.set hli
  have hchq : q'.ch = q.ch := by rw [hq]
  refine h.upd (W' := unionN (K8 q b k) (W8 q li)) hk e1 (by rw [hq]) (by rw [hq]) (by rw [hq]) (by rw [hq]) ⟨unionN_nd a1, fun i hi => ?_⟩ (by rw [hchq]; omega) (fun c hc => h.cs c (by rw [hchq] at hc; exact hc)) (fun b' W m hw => ?_) (fun W rows hlt hw => ?_) (fun b' => ?_) ⟨?_, ?_⟩ ?_
  · rw [hchq]
    rcases unionN_mem.mp hi with hi | hi
    · exact a2 i hi
    · exact c2 i hi
  · rw [eA]
    exact hw.ow fun j hj => by rw [how b' j hj]; exact Int.le_refl _
  · rw [eA]
    exact hw
  · rw [eA]
    exact (h.num b').ow (how b')
  · rw [eA]
    exact (hc.join hu).ow fun j hj => by rw [how b j hj]; exact Int.le_refl _
  · rw [eA]
    exact Std.met hc hu (h.num b) hs ht
  · obtain ⟨G, g1, g2, g3⟩ := h.gs b
    exact ⟨G, by omega, (g2 k hk).met (g3 _ hx rfl), g2, g3⟩
/-! ### what is due -/
def goneL (A : List ACh) (W : List Nat) : List Nat := W.foldl (fun g i => unionN g (((A[i]?).map (·.seen)).getD [])) []
theorem gone_mem {A : List ACh} {i : Nat} : ∀ (W g : List Nat), i ∈ W.foldl (fun g i => unionN g (((A[i]?).map (·.seen)).getD [])) g ↔ i ∈ g ∨ ∃ j ∈ W, i ∈ ((A[j]?).map (·.seen)).getD []
  | [], g => by simp
  | j :: W, g => by
    rw [List.foldl_cons, gone_mem W, unionN_mem]
    simp only [List.mem_cons, exists_eq_or_imp]
    constructor
    · rintro ((h | h) | h)
      · exact .inl h
      · exact .inr (.inl h)
      · exact .inr (.inr h)
    · rintro (h | h | h)
      · exact .inl (.inl h)
      · exact .inl (.inr h)
      · exact .inr h
def dueP (A : List ACh) (g : List Nat) (i : Nat) : Bool := (!decide (i ∈ g)) && decide (0 ≤ kpA A i)
def rowX (A : List ACh) (i : Nat) : List Int := ((A[i]?).map rowA).getD []
theorem due_rows {A : List ACh} {own : Nat → Int} {W : List Nat} {G : List (List Int)} {s : Shelf} (hc : CoW A n own b W s.1) (hs : Std A W s.2) (hn : NumA A n own b) (hg : GS n G s) : sortI ((W.filter (dueP A (goneL A W))).map (rowX A)) = s.2 := by
  have hnd : ((W.filter (dueP A (goneL A W))).map (rowX A)).Nodup := by
    refine List.pairwise_map.mpr (List.Pairwise.imp_of_mem (fun {a c} ha hcm hne e => hne ?_) (List.Nodup.sublist (List.filter_sublist ..) hc.nd))
    obtain ⟨h1, h2⟩ := List.mem_filter.mp ha
    obtain ⟨h3, h4⟩ := List.mem_filter.mp hcm
    obtain ⟨ca, q1, q2⟩ := hc.lt a h1
    obtain ⟨cc, q3, q4⟩ := hc.lt c h3
    unfold dueP kpA at h2 h4
    rw [q1] at h2
    rw [q3] at h4
    rw [Bool.and_eq_true, decide_eq_true_eq] at h2 h4
    unfold rowX at e
    rw [q1, q3] at e
    have e' : rowA ca = rowA cc := e
    have k1 : ca.kp = cc.kp := (List.cons.inj e').1
    have k2 : ca.num = cc.num := (List.cons.inj (List.cons.inj e').2).1
    exact hn.uniq a c ca cc q1 q3 q2 q4 h2.2 k1 k2
  have hp : ((W.filter (dueP A (goneL A W))).map (rowX A)).Perm s.2 := by
    refine (List.perm_ext_iff_of_nodup hnd hg.nd).mpr fun x => ?_
    rw [hs x, List.mem_map]
    constructor
    · rintro ⟨i, hi, rfl⟩
      obtain ⟨h1, h2⟩ := List.mem_filter.mp hi
      obtain ⟨c, q1, q2⟩ := hc.lt i h1
      unfold dueP kpA at h2
      rw [q1, Bool.and_eq_true, Bool.not_eq_true', decide_eq_false_iff_not, decide_eq_true_eq] at h2
      refine ⟨i, h1, c, q1, h2.2, by unfold rowX; rw [q1]; rfl, fun i' hi' c' hc' hm => h2.1 ?_⟩
      unfold goneL
      rw [gone_mem]
      exact .inr ⟨i', hi', by rw [hc']; exact hm⟩
    · rintro ⟨i, hi, c, q1, q2, rfl, q4⟩
      refine ⟨i, List.mem_filter.mpr ⟨hi, ?_⟩, by unfold rowX; rw [q1]; rfl⟩
      unfold dueP kpA
      rw [q1, Bool.and_eq_true, Bool.not_eq_true', decide_eq_false_iff_not, decide_eq_true_eq]
      refine ⟨fun hm => ?_, q2⟩
      unfold goneL at hm
      rw [gone_mem] at hm
      rcases hm with hm | ⟨j, hj, hm⟩
      · cases hm
      · cases e : A[j]? with
        | none => rw [e] at hm; cases hm
        | some c' =>
          rw [e] at hm
          exact q4 j hj c' e hm
  exact (sortI_eq hg.asc hp.symm).symm
end
end KS
set_option maxHeartbeats 400000
namespace KS
open PySem PySem.Spec PyProof.Rows L2 DL
/-! ### law 08: what the defs do -/
def val8 (few : Bool) (c : Int) : Int := if few then c / 9 % 2 else c * 48271 % (2 * 10 ^ 60 - 1) - (10 ^ 60 - 1)
def sVal8 : Spc := fun ds M r => ∃ (c : Int) (few : Bool), ds = [dInt c, .v (.bl few)] ∧ r = .ok (dInt (val8 few c)) M
def sBoth8 : Spc := fun ds M r => ∃ (i j : Nat) (L J : List Nat), ds = [.res i, .res j] ∧ M[i]? = some (.dK (keysK L)) ∧ M[j]? = some (.dK (keysK J)) ∧ L.length ≤ 1000 ∧ J.length ≤ 1000 ∧ r = .ok (.res M.length) (M ++ [.dK (keysK (unionN L J))])
def chR (p : ACh × Nat) : D := .tup [dInt p.1.kp, dInt p.1.num, dInt p.1.val, .res p.2]
def marks8 (A : List ACh) (n : Nat) (W : List Nat) : List Int := (List.range n).map fun (k : Nat) => (((W.filter fun i => decide (kpA A i = (k : Int))).length : Nat) : Int)
def rows8 (A : List ACh) (W : List Nat) : List (List Int) := (W.filter (dueP A (goneL A W))).map (rowX A)
def sDue8 : Spc := fun ds M r => ∃ (a i n : Nat) (cs : List (ACh × Nat)) (W : List Nat), ds = [.res a, .res i, dInt (n : Nat)] ∧ M[a]? = some (.lst (cs.map chR)) ∧ M[i]? = some (.dK (keysK W)) ∧ n ≤ 9 ∧ W.length ≤ 100 ∧
  (∀ p ∈ cs, M[p.2]? = some (.dK (keysK p.1.seen)) ∧ p.1.seen.length ≤ 100 ∧ p.1.kp < n) ∧ (∀ j ∈ W, j < cs.length) ∧ r = .ok (.tup [.lst (intsD (valsI (sortI (rows8 (cs.map (·.1)) W)))), tupI (marks8 (cs.map (·.1)) n W)]) M
def sAsked8 (Cl : Addr) : Spc := fun ds M r => ∃ (i k x n : Nat) (is : List Nat) (dc : List Dct) (d : Dct) (key : Str), At Cl M i k x n is dc d ∧ GoodS n (getS n d key) ∧ d.length ≤ 1000 ∧ ds = [.res i, dInt (k : Nat), .v (.str key)] ∧ r = .ok (.v .non) M
def sTold8 (Cl : Addr) : Spc := fun ds M r => ∃ (i k x n : Nat) (is : List Nat) (dc : List Dct) (d : Dct) (key : Str), At Cl M i k x n is dc d ∧ GoodS n (getS n d key) ∧ (getS n d key).2.length ≤ 900 ∧ n ≤ 9 ∧ ds = [.res i, dInt (k : Nat), .v (.str key), seenD (getS n d key)] ∧ r = .ok (.v (.bl true)) M
theorem keysK_some (L : List Nat) (i : Nat) : (valD (keysK L) (.inl (i : Int))).isSome = decide (i ∈ L) := by
  rw [keysK_val]
  by_cases h : i ∈ L
  · rw [if_pos h, decide_eq_true h]; rfl
  · rw [if_neg h, decide_eq_false h]; rfl
theorem unionN_len : ∀ (J L : List Nat), (unionN L J).length ≤ L.length + J.length
  | [], L => by simp [unionN]
  | j :: J, L => by
    have := unionN_len J (addN L j)
    have h2 : (addN L j).length ≤ L.length + 1 := by unfold addN; split <;> simp
    show (unionN (addN L j) J).length ≤ _
    rw [List.length_cons]; omega
def seenA (A : List ACh) (i : Nat) : List Nat := ((A[i]?).map (·.seen)).getD []
def goneT (A : List ACh) (W : List Nat) (j : Nat) : List Nat := (W.take j).foldl (fun g i => unionN g (seenA A i)) []
theorem goneT_succ {A : List ACh} {W : List Nat} {j i : Nat} (h : W[j]? = some i) : goneT A W (j + 1) = unionN (goneT A W j) (seenA A i) := by
  unfold goneT
  rw [List.take_add_one, h]
  show ((W.take j) ++ [i]).foldl _ [] = _
  rw [List.foldl_append]; rfl
theorem goneT_len {A : List ACh} {W : List Nat} (hs : ∀ i, (seenA A i).length ≤ 100) (j : Nat) : (goneT A W j).length ≤ 100 * j := by
  induction j with
  | zero => simp [goneT]
  | succ j ih =>
    cases h : W[j]? with
    | none =>
      have : goneT A W (j + 1) = goneT A W j := by
        unfold goneT
        have hl : W.length ≤ j := by
          rcases Nat.lt_or_ge j W.length with hq | hq
          · rw [List.getElem?_eq_getElem hq] at h; cases h
          · exact hq
        rw [List.take_of_length_le hl, List.take_of_length_le (by omega)]
      rw [this]; omega
    | some i =>
      rw [goneT_succ h]
      have := unionN_len (seenA A i) (goneT A W j)
      have := hs i
      omega
theorem marks8_step {A : List ACh} {n : Nat} {W : List Nat} {j i : Nat} (h : W[j]? = some i) {k : Nat} (hk : kpA A i = (k : Int)) (hkn : k < n) : (marks8 A n (W.take j)).set k ((marks8 A n (W.take j)).getD k 0 + 1) = marks8 A n (W.take (j + 1)) := by
  have e : W.take (j + 1) = W.take j ++ [i] := by rw [List.take_add_one, h]; rfl
  rw [e]
  unfold marks8
  apply List.ext_getElem?
  intro x
  by_cases hx : x = k
  · subst hx
    rw [List.getElem?_set_self (by simpa using hkn)]
    simp [hkn, List.filter_append, hk]
  · rw [List.getElem?_set_ne (fun z => hx z.symm)]
    by_cases hxn : x < n
    · have : ¬ (k : Int) = (x : Int) := by omega
      simp [hxn, List.filter_append, hk, this]
    · rw [List.getElem?_eq_none (by simp; omega), List.getElem?_eq_none (by simp; omega)]
theorem marks8_skip {A : List ACh} {n : Nat} {W : List Nat} {j i : Nat} (h : W[j]? = some i) (hk : ¬ 0 ≤ kpA A i) : marks8 A n (W.take j) = marks8 A n (W.take (j + 1)) := by
  have e : W.take (j + 1) = W.take j ++ [i] := by rw [List.take_add_one, h]; rfl
  rw [e]
  unfold marks8
  refine List.map_congr_left fun x _ => ?_
  have : ¬ kpA A i = (x : Int) := by omega
  rw [List.filter_append, List.filter_cons_of_neg (by simpa using this)]
  simp
end KS
set_option maxHeartbeats 400000
namespace KS
open PySem PySem.Spec PyProof.Rows L2 DL
/-! ### law 08: a look that is chosen -/
abbrev Lk8 := Bool × List Int × Nat
def own8L (q : Q8) (b : Bool) : List Lk8 := q.lk.filter fun x => decide (V.str (kk x.1) = V.str (kk b))
def first8 (q : Q8) (b : Bool) (pick : Int) : Lk8 := (own8L q b).getD (pick % (((own8L q b).length : Int) + 1)).toNat (false, [], 0)
def other8 (q : Q8) (b : Bool) (pick : Int) : Lk8 := (own8L q b).getD (pick / (((own8L q b).length : Int) + 1) / 3 % ((own8L q b).length : Int)).toNat (false, [], 0)
def looked8 (n : Nat) (q : Q8) (b : Bool) (pick : Int) : List Int × Nat × List (List Nat) :=
  if own8L q b = [] ∨ pick % (((own8L q b).length : Int) + 1) = ((own8L q b).length : Int) then (blankI n, q.ds.length, [[]])
  else if 0 < pick / (((own8L q b).length : Int) + 1) % 3 then ((first8 q b pick).2.1, (first8 q b pick).2.2, [])
  else (joinI (first8 q b pick).2.1 (other8 q b pick).2.1, q.ds.length, [unionN (W8 q (first8 q b pick).2.2) (W8 q (other8 q b pick).2.2)])
section
variable {n t : Nat} {q : Q8} {b : Bool} {pick : Int}
theorem own8L_mem {x : Lk8} (h : x ∈ own8L q b) : x ∈ q.lk ∧ x.1 = b := by
  obtain ⟨h1, h2⟩ := List.mem_filter.mp h
  exact ⟨h1, kk_inj (V.str.inj (of_decide_eq_true h2))⟩
theorem first8_at (h : ¬ (own8L q b = [] ∨ pick % (((own8L q b).length : Int) + 1) = ((own8L q b).length : Int))) : ∃ j, j < (own8L q b).length ∧ ((j : Nat) : Int) = pick % (((own8L q b).length : Int) + 1) ∧ (own8L q b)[j]? = some (first8 q b pick) ∧ first8 q b pick ∈ own8L q b := by
  have a := Int.emod_nonneg pick (b := ((own8L q b).length : Int) + 1) (by omega)
  have c := Int.emod_lt_of_pos pick (b := ((own8L q b).length : Int) + 1) (by omega)
  have h2 : pick % (((own8L q b).length : Int) + 1) ≠ ((own8L q b).length : Int) := fun e => h (.inr e)
  have hj : (pick % (((own8L q b).length : Int) + 1)).toNat < (own8L q b).length := by omega
  refine ⟨_, hj, by omega, ?_, mem_getD hj⟩
  unfold first8
  rw [List.getD_eq_getElem?_getD, List.getElem?_eq_getElem hj]; rfl
theorem other8_at (h : own8L q b ≠ []) : ∃ j, j < (own8L q b).length ∧ ((j : Nat) : Int) = pick / (((own8L q b).length : Int) + 1) / 3 % ((own8L q b).length : Int) ∧ (own8L q b)[j]? = some (other8 q b pick) ∧ other8 q b pick ∈ own8L q b := by
  have h0 : 0 < (own8L q b).length := List.length_pos_iff.mpr h
  have a := Int.emod_nonneg (pick / (((own8L q b).length : Int) + 1) / 3) (b := ((own8L q b).length : Int)) (by omega)
  have c := Int.emod_lt_of_pos (pick / (((own8L q b).length : Int) + 1) / 3) (b := ((own8L q b).length : Int)) (by omega)
  have hj : (pick / (((own8L q b).length : Int) + 1) / 3 % ((own8L q b).length : Int)).toNat < (own8L q b).length := by omega
  refine ⟨_, hj, by omega, ?_, mem_getD hj⟩
  unfold other8
  rw [List.getD_eq_getElem?_getD, List.getElem?_eq_getElem hj]; rfl
/-- what has been chosen tells the same as its set -/
theorem looked8_ok (h : Ok8 n t q) (pick : Int) {q' : Q8} (hq : q' = { q with ds := q.ds ++ (looked8 n q b pick).2.2 }) : Ok8 n t q' ∧ (looked8 n q b pick).2.1 < q'.ds.length ∧ CoW (A8 q') n (own8 n q' b) b (W8 q' (looked8 n q b pick).2.1) (looked8 n q b pick).1 := by
  unfold looked8 at hq ⊢
  by_cases h1 : own8L q b = [] ∨ pick % (((own8L q b).length : Int) + 1) = ((own8L q b).length : Int)
  · rw [if_pos h1] at hq ⊢
    have hk := h.newd (L := []) ⟨List.nodup_nil, fun i hi => nomatch hi⟩
    have hq2 : q' = { q with ds := q.ds ++ [[]] } := hq
    rw [hq2]
    refine ⟨hk, by show q.ds.length < (q.ds ++ [[]]).length; simp, ?_⟩
    have e1 : W8 { q with ds := q.ds ++ [[]] } q.ds.length = [] := W8_new
    show CoW _ n _ b (W8 _ q.ds.length) (blankI n)
    rw [e1]
    exact CoW.blank (fun j hj => hk.own0 b hj) (hk.num b)
  · rw [if_neg h1] at hq ⊢
    obtain ⟨_, _, _, _, fm⟩ := first8_at h1
    obtain ⟨fm1, fb⟩ := own8L_mem fm
    obtain ⟨f1, f2⟩ := h.lk _ fm1
    rw [fb] at f2
    by_cases h2 : 0 < pick / (((own8L q b).length : Int) + 1) % 3
    · rw [if_pos h2] at hq ⊢
      have hq2 : q' = q := by rw [hq]; simp
      rw [hq2]
      exact ⟨h, f1, f2⟩
    · rw [if_neg h2] at hq ⊢
      have hne : own8L q b ≠ [] := fun e => h1 (.inl e)
      obtain ⟨_, _, _, _, om⟩ := other8_at (pick := pick) hne
      obtain ⟨om1, ob⟩ := own8L_mem om
      obtain ⟨o1, o2⟩ := h.lk _ om1
      rw [ob] at o2
      obtain ⟨a1, a2⟩ := h.set f1
      obtain ⟨c1, c2⟩ := h.set o1
      have hk := h.newd (L := unionN (W8 q (first8 q b pick).2.2) (W8 q (other8 q b pick).2.2)) ⟨unionN_nd a1, fun i hi => (unionN_mem.mp hi).elim (a2 i) (c2 i)⟩
      have hq2 : q' = { q with ds := q.ds ++ [unionN (W8 q (first8 q b pick).2.2) (W8 q (other8 q b pick).2.2)] } := hq
      rw [hq2]
      refine ⟨hk, by show q.ds.length < (q.ds ++ [_]).length; simp, ?_⟩
      have e1 : W8 { q with ds := q.ds ++ [unionN (W8 q (first8 q b pick).2.2) (W8 q (other8 q b pick).2.2)] } q.ds.length = unionN (W8 q (first8 q b pick).2.2) (W8 q (other8 q b pick).2.2) := W8_new
      have e2 : A8 { q with ds := q.ds ++ [unionN (W8 q (first8 q b pick).2.2) (W8 q (other8 q b pick).2.2)] } = A8 q := A8_old h.cs
      show CoW _ n _ b (W8 _ q.ds.length) (joinI _ _)
      rw [e1, e2]
      exact f2.join o2
end
def sLooked8 (Cl : Addr) : Spc := fun ds M r => ∃ (M0 : Mem) (n t : Nat) (q : Q8) (b : Bool) (pick : Int), M = mem8 Cl M0 n q ∧ Ok8 n t q ∧ 1 ≤ n ∧ n ≤ 9 ∧ t ≤ 60 ∧ ds = [.res (B8 M0 n + (2 * n + 2)), .v (.str (kk b)), dInt pick, dInt (n : Nat)] ∧
  r = .ok (.tup [tupI (looked8 n q b pick).1, setD (B8 M0 n) n (looked8 n q b pick).2.1]) (mem8 Cl M0 n { q with ds := q.ds ++ (looked8 n q b pick).2.2 })
def put8 (n : Nat) (q : Q8) (b : Bool) (k : Nat) (u : List Int) (ui : Nat) : Option Int → Q8
  | some v => { q with dc := q.dc.set k (putS (q.dc.getD k []) (kk b) (putShelf (sh8 n q b k) u k v)), ch := q.ch ++ [⟨(k : Int), own8 n q b k + 1, v, ui, b⟩], ds := q.ds ++ [addN (unionN (K8 q b k) (W8 q ui)) q.ch.length], kn := q.kn.set (kid b k) q.ds.length }
  | none => { q with dc := q.dc.set k (putS (q.dc.getD k []) (kk b) (dropShelf (sh8 n q b k) u)), ch := q.ch ++ [⟨-1, 0, 0, ui, b⟩], ds := q.ds ++ [addN (unionN (K8 q b k) (W8 q ui)) q.ch.length], kn := q.kn.set (kid b k) q.ds.length }
theorem put8_ok {n t : Nat} {q : Q8} {b : Bool} {k : Nat} {u : List Int} {ui : Nat} (h : Ok8 n t q) (hk : k < n) (hui : ui < q.ds.length) (hu : CoW (A8 q) n (own8 n q b) b (W8 q ui) u) (v : Option Int) : Ok8 n (t + 1) (put8 n q b k u ui v) := by
  cases v with
  | some v => exact h.put hk hui hu rfl
  | none => exact h.drop hk hui hu rfl
def optV : Option Int → D
  | some v => dInt v
  | none => .v .non
def sChanged8 (Cl : Addr) : Spc := fun ds M r => ∃ (M0 : Mem) (n t : Nat) (q : Q8) (b : Bool) (k : Nat) (u : List Int) (ui : Nat) (v : Option Int), M = mem8 Cl M0 n q ∧ Ok8 n t q ∧ 1 ≤ n ∧ n ≤ 9 ∧ t ≤ 60 ∧ k < n ∧ ui < q.ds.length ∧ CoW (A8 q) n (own8 n q b) b (W8 q ui) u ∧
  ds = [.res M0.length, .tup [.res (B8 M0 n + (2 * n + 1)), .res (B8 M0 n)], .tup [dInt (k : Nat), .v (.str (kk b))], .tup [tupI u, setD (B8 M0 n) n ui], optV v] ∧ r = .ok (.v .non) (mem8 Cl M0 n (put8 n q b k u ui v))
theorem join_range {n : Nat} {a b : List Int} (ha : a.length = n) (hb : b.length = n) : ((List.range n).map fun (k : Nat) => dInt (max (a.getD k 0) (b.getD k 0))) = intsD (joinI a b) := by
  apply List.ext_getElem?
  intro i
  unfold intsD joinI
  rw [List.getElem?_map, List.getElem?_map, List.getElem?_zipWith]
  by_cases hi : i < n
  · have h1 : i < a.length := by omega
    have h2 : i < b.length := by omega
    simp [hi, h1, h2]
  · have h1 : ¬ i < a.length := by omega
    simp [hi, h1]
theorem Ok8.good8 {n t : Nat} {q : Q8} (h : Ok8 n t q) (ht : t ≤ 60) (b : Bool) {k : Nat} (hk : k < n) : GoodS n (sh8 n q b k) ∧ (sh8 n q b k).2.length < 64 := by
  obtain ⟨G, g1, g2, _⟩ := h.gs b
  exact ⟨(g2 k hk).good (by omega), by have := (g2 k hk).few; omega⟩
theorem nd_lenX {α : Type} [DecidableEq α] : ∀ {L G : List α}, L.Nodup → (∀ x ∈ L, x ∈ G) → L.length ≤ G.length
  | [], _, _, _ => Nat.zero_le _
  | x :: L, G, h, hs => by
    obtain ⟨h1, h2⟩ := List.nodup_cons.mp h
    have hx := hs x List.mem_cons_self
    have := nd_lenX (G := G.erase x) h2 fun y hy => (List.mem_erase_of_ne (fun e : y = x => h1 (by rw [← e]; exact hy))).mpr (hs y (List.mem_cons_of_mem _ hy))
    rw [List.length_erase_of_mem hx] at this
    have := List.length_pos_of_mem hx
    rw [List.length_cons]
    omega
theorem Ok8.dl8 {n t : Nat} {q : Q8} (h : Ok8 n t q) {k : Nat} (hk : k < n) : (q.dc.getD k []).length ≤ 1000 := by
  obtain ⟨h1, h2⟩ := h.dk _ (mem_getD (d := []) (show k < q.dc.length by rw [h.dl]; exact hk))
  generalize q.dc.getD k [] = d at h1 h2
  have : (d.map (·.1)).length ≤ [kk false, kk true].length := by
    refine nd_lenX h1 fun x hx => ?_
    obtain ⟨p, hp, rfl⟩ := List.mem_map.mp hx
    obtain ⟨b, e⟩ := h2 p hp
    rw [e]
    cases b <;> simp
  rw [List.length_map] at this
  exact Nat.le_trans this (by decide)
end KS
set_option maxHeartbeats 400000
namespace KS
open PySem PySem.Spec PyProof.Rows L2 DL
/-! ### law 08: a deed -/
def key8 (c : Int) : Bool := decide (c / 81 % 2 = 1)
def pick8 (c t : Int) : Int := c / 162 + 7 * t
def let8 (q : Q8) (p : Int) : Bool × Shelf × Nat := q.lt.getD (p % ((q.lt.length : Nat) : Int)).toNat (false, ([], []), 0)
def look8 (n : Nat) (q : Q8) (b : Bool) (k : Nat) : Q8 := { q with lk := q.lk ++ [(b, (sh8 n q b k).1, q.ds.length)], ds := q.ds ++ [K8 q b k] }
def letr8 (n : Nat) (q : Q8) (b : Bool) (k : Nat) : Q8 := { q with lt := q.lt ++ [(b, sh8 n q b k, q.ds.length)], ds := q.ds ++ [K8 q b k] }
def take8 (n : Nat) (q : Q8) (k : Nat) (x : Bool × Shelf × Nat) : Q8 := { q with dc := q.dc.set k (putS (q.dc.getD k []) (kk x.1) (metShelf (sh8 n q x.1 k) x.2.1.1 x.2.1.2)), ds := q.ds ++ [unionN (K8 q x.1 k) (W8 q x.2.2)], kn := q.kn.set (kid x.1 k) q.ds.length }
def chd8 (n : Nat) (q : Q8) (few : Bool) (c t : Int) : Q8 := put8 n { q with ds := q.ds ++ (looked8 n q (key8 c) (pick8 c t)).2.2 } (key8 c) (kp10 n c) (looked8 n q (key8 c) (pick8 c t)).1 (looked8 n q (key8 c) (pick8 c t)).2.1 (if srt10 c t < 3 then some (val8 few c) else none)
def deed8 (n : Nat) (q : Q8) (few : Bool) (c t : Int) : Bool × Q8 :=
  if srt10 c t < 4 then (key8 c, chd8 n q few c t)
  else if srt10 c t < 6 then (key8 c, look8 n q (key8 c) (kp10 n c))
  else if srt10 c t = 6 ∨ q.lt = [] then (key8 c, letr8 n q (key8 c) (kp10 n c))
  else ((let8 q (pick8 c t)).1, take8 n q (kp10 n c) (let8 q (pick8 c t)))
theorem let8_mem {q : Q8} (h : q.lt ≠ []) (p : Int) : let8 q p ∈ q.lt := by
  have h0 : 0 < q.lt.length := List.length_pos_iff.mpr h
  have a := Int.emod_nonneg p (b := ((q.lt.length : Nat) : Int)) (by omega)
  have b := Int.emod_lt_of_pos p (b := ((q.lt.length : Nat) : Int)) (by omega)
  exact mem_getD (by omega)
theorem deed8_ok {n t : Nat} {q : Q8} (h : Ok8 n t q) (hn : 1 ≤ n) (few : Bool) (c z : Int) : Ok8 n (t + 1) (deed8 n q few c z).2 := by
  have hk := (kp10_lt hn c).1
  unfold deed8
  split
  · obtain ⟨h1, h2, h3⟩ := looked8_ok (b := key8 c) h (pick8 c z) rfl
    exact put8_ok h1 hk h2 h3 _
  split
  · exact h.look hk
  split
  · exact h.letter hk
  · rename_i h3
    have hne : q.lt ≠ [] := fun e => h3 (.inr e)
    have hm := let8_mem hne (pick8 c z)
    exact h.take hk (b := (let8 q (pick8 c z)).1) (l := (let8 q (pick8 c z)).2.1) (li := (let8 q (pick8 c z)).2.2) hm rfl
def sDeed8 (Cl : Addr) : Spc := fun ds M r => ∃ (M0 : Mem) (n t : Nat) (q : Q8) (few : Bool) (c : Int), M = mem8 Cl M0 n q ∧ Ok8 n t q ∧ 1 ≤ n ∧ n ≤ 9 ∧ t ≤ 50 ∧
  ds = [.res M0.length, .tup [.res (B8 M0 n + (2 * n + 1)), .res (B8 M0 n)], .tup [.res (B8 M0 n + (2 * n + 2)), .res (B8 M0 n + (2 * n + 3))], dInt c, dInt (t : Nat), .v (.bl few)] ∧
  r = .ok (.tup [dInt (kp10 n c : Nat), .v (.str (kk (deed8 n q few c (t : Nat)).1))]) (mem8 Cl M0 n (deed8 n q few c (t : Nat)).2)
def cells8 (s : List Int) (n : Nat) : List Int := if cellI s 0 / 45 % 3 = 1 then [162 * (n : Int) * (cellI s 1 % 10 ^ 30), 5, 2, 162, 3, 11, 0, 9] ++ cutI s 2 24 else cutI s 1 31
theorem cells8_len (s : List Int) (n : Nat) : (cells8 s n).length ≤ 30 := by
  unfold cells8
  split
  · rw [List.length_append]
    have := cutI_len s 2 22
    have e : (cutI s 2 24).length ≤ 22 := this
    simp only [List.length_cons, List.length_nil]; omega
  · exact cutI_len s 1 30
def sCells8 : Spc := fun ds M r => ∃ (s : List Int) (n : Nat), ds = [.lst (intsD s), dInt (n : Nat)] ∧ n ≤ 9 ∧ r = .ok (.lst (intsD (cells8 s n))) M
end KS
set_option maxHeartbeats 400000
namespace KS
open PySem PySem.Spec PyProof.Rows L2 DL
section
variable {Cl : Addr} {M0 : Mem} {n : Nat} {q : Q8}
/-! ### law 08: the lists that were told -/
def tlD (l : List (List Int)) : List D := l.map fun v => D.lst (intsD v)
theorem mem8_tl (hd : q.dc.length = n) (h : 2 * n ≤ q.ds.length) : (mem8 Cl M0 n q)[B8 M0 n + (2 * n + 4)]? = some (.lst (tlD q.tl)) := (mem8_get hd _).trans (T8_mid h (j := 3) (by decide))
theorem mem8_kp (hd : q.dc.length = n) (h : 2 * n ≤ q.ds.length) : (mem8 Cl M0 n q)[B8 M0 n + (2 * n + 5)]? = some (.lst (tlD q.tl)) := (mem8_get hd _).trans (T8_mid h (j := 4) (by decide))
/-- told, then kept -/
theorem mem8_tls (hd : q.dc.length = n) (h : 2 * n ≤ q.ds.length) (v : List Int) : ((mem8 Cl M0 n q).set (B8 M0 n + (2 * n + 4)) (.lst (tlD q.tl ++ [.lst (intsD v)]))).set (B8 M0 n + (2 * n + 5)) (.lst (tlD q.tl ++ [.lst (intsD v)])) = mem8 Cl M0 n { q with tl := q.tl ++ [v] } := by
  have e1 := T8_mset (B := B8 M0 n) h (j := 3) (by decide) (.lst (tlD q.tl ++ [.lst (intsD v)]))
  have hl : ((q.ds.take (2 * n)).map dk8).length = 2 * n := by rw [List.length_map, List.length_take, Nat.min_eq_left h]
  rw [mem8_tset hd (2 * n + 4)]
  have e2 := memS_tset (Cl := Cl) (M0 := M0) (n := n) (dc := q.dc) (T := (T8 (B8 M0 n) n q).set (2 * n + 4) (.lst (tlD q.tl ++ [.lst (intsD v)]))) hd (2 * n + 5) (.lst (tlD q.tl ++ [.lst (intsD v)]))
  refine e2.trans (congrArg (memS Cl M0 n q.dc) ?_)
  have e1' : (T8 (B8 M0 n) n q).set (2 * n + 4) (.lst (tlD q.tl ++ [.lst (intsD v)])) = _ := e1
  rw [e1']
  have e3 : 2 * n + 5 = (2 * n + 4) + 1 := by omega
  rw [e3, List.set_cons_succ]
  conv => lhs; rw [show 2 * n + 4 = ((q.ds.take (2 * n)).map dk8).length + 4 by rw [hl]]
  rw [set_app, List.set_append_left _ _ (by simp)]
  unfold T8 tl8 tlD
  rw [List.map_append]; rfl
theorem mem8_tl1 (hd : q.dc.length = n) (h : 2 * n ≤ q.ds.length) (x : MO) : ((mem8 Cl M0 n q).set (B8 M0 n + (2 * n + 4)) x)[B8 M0 n + (2 * n + 5)]? = some (.lst (tlD q.tl)) := by
  rw [List.getElem?_set_ne (by omega)]
  exact mem8_kp hd h
theorem mem8_tl2 (hd : q.dc.length = n) (h : 2 * n ≤ q.ds.length) (x : MO) : ((mem8 Cl M0 n q).set (B8 M0 n + (2 * n + 4)) x)[B8 M0 n + (2 * n + 4)]? = some x := by
  have := (List.getElem?_eq_some_iff.mp (mem8_tl (Cl := Cl) (M0 := M0) hd h)).1
  rw [List.getElem?_set_self this]
theorem Ok8.tell {t : Nat} (h : Ok8 n t q) (v : List Int) : Ok8 n t { q with tl := q.tl ++ [v] } := ⟨h.dl, h.kl, h.kb, h.dsl, h.dsz, h.cs, h.chl, h.lkl, h.ltl, h.num, h.sh, h.lk, h.lt, h.gs, h.dk⟩
/-! ### what is due is what stands -/
theorem Ok8.due {t : Nat} (h : Ok8 n t q) (b : Bool) {k : Nat} (hk : k < n) : sortI (rows8 (A8 q) (K8 q b k)) = (sh8 n q b k).2 ∧ marks8 (A8 q) n (K8 q b k) = (sh8 n q b k).1 := by
  obtain ⟨hc, hs⟩ := h.sh b k hk
  obtain ⟨G, _, g2, _⟩ := h.gs b
  refine ⟨due_rows hc hs (h.num b) (g2 k hk), ?_⟩
  apply List.ext_getElem?
  intro j
  unfold marks8
  rw [List.getElem?_map]
  by_cases hj : j < n
  · rw [List.getElem?_range hj]
    have := count8 hc (h.num b) hj
    exact (congrArg some this).trans (get_getD (by rw [hc.len]; exact hj)).symm
  · rw [List.getElem?_eq_none (by rw [List.length_range]; omega), List.getElem?_eq_none (by rw [hc.len]; omega)]; rfl
theorem Ok8.dsl100 {t : Nat} (h : Ok8 n t q) (ht : t ≤ 60) {i : Nat} (hi : i < q.ds.length) : (W8 q i).length ≤ 60 := by
  obtain ⟨a, b⟩ := h.set hi
  have := nd_lenX (G := List.range q.ch.length) a (fun x hx => List.mem_range.mpr (b x hx))
  rw [List.length_range] at this
  have := h.chl
  omega
theorem Ok8.dueS {t : Nat} (h : Ok8 n t q) (ht : t ≤ 60) (hn : n ≤ 9) (b : Bool) {k : Nat} (hk : k < n) : sDue8 [.res (B8 M0 n + (2 * n + 1)), setD (B8 M0 n) n (q.kn.getD (kid b k) 0), dInt (n : Nat)] (mem8 Cl M0 n q) (.ok (seenD (sh8 n q b k)) (mem8 Cl M0 n q)) := by
  obtain ⟨_, hkb⟩ := h.kn (b := b) hk
  obtain ⟨d1, d2⟩ := h.due b hk
  have eA : (q.ch.map fun c => ((⟨c.kp, c.num, c.val, q.ds.getD c.sd [], c.key⟩ : ACh), B8 M0 n + adr n c.sd)).map (·.1) = A8 q := by
    rw [List.map_map]; rfl
  refine ⟨_, _, n, q.ch.map fun c => (⟨c.kp, c.num, c.val, q.ds.getD c.sd [], c.key⟩, B8 M0 n + adr n c.sd), K8 q b k, rfl, ?_, mem8_set h.dl h.dsl hkb, hn, Nat.le_trans (h.dsl100 ht hkb) (by decide), fun p hp => ?_, fun j hj => ?_, ?_⟩
  · rw [mem8_ch h.dl h.dsl, List.map_map]; rfl
  · obtain ⟨c, hc, rfl⟩ := List.mem_map.mp hp
    refine ⟨mem8_set h.dl h.dsl (h.cs c hc), Nat.le_trans (h.dsl100 ht (h.cs c hc)) (by decide), ?_⟩
    show c.kp < n
    by_cases h0 : 0 ≤ c.kp
    · obtain ⟨i, hi⟩ := List.getElem?_of_mem hc
      exact ((h.num c.key).rng i ⟨c.kp, c.num, c.val, q.ds.getD c.sd [], c.key⟩ (by unfold A8; rw [List.getElem?_map, hi]; rfl) rfl h0).1
    · omega
  · rw [List.length_map]
    exact (h.set hkb).2 j hj
  · rw [eA, d1, d2]; rfl
end
end KS
set_option maxHeartbeats 400000
namespace KS
open PySem PySem.Spec PyProof.Rows L2 DL
section
variable {Cl : Addr} {M0 : Mem} {n : Nat} {q : Q8}
/-! ### law 08: the keys -/
/-- the keys of k with rows on them -/
def ks8 (n : Nat) (q : Q8) (k : Nat) : List Bool := [false, true].filter fun b => !decide ((sh8 n q b k).2 = [])
theorem sort_kk (p : Bool → Bool) : sortS (([false, true].filter p).map kk) = ([false, true].filter p).map kk := by
  refine (sortS_eq ?_ (List.Perm.refl _)).symm
  refine List.pairwise_map.mpr (List.Pairwise.sublist (List.filter_sublist ..) ?_)
  refine List.pairwise_cons.mpr ⟨fun b hb => ?_, List.pairwise_singleton _ _⟩
  rw [List.mem_singleton.mp hb]
  have : leS (kk false) (kk true) := by decide +kernel
  exact this
theorem Ok8.keys {t : Nat} (h : Ok8 n t q) {k : Nat} (hk : k < n) : sortS (((q.dc.getD k []).filter fun p => !p.2.2.isEmpty).map (·.1)) = (ks8 n q k).map kk := by
  have hd : q.dc.getD k [] ∈ q.dc := mem_getD (by rw [h.dl]; exact hk)
  obtain ⟨hnd, hkk⟩ := h.dk _ hd
  unfold ks8
  rw [← sort_kk]
  have nd2 : (([false, true].filter fun b => !decide ((sh8 n q b k).2 = [])).map kk).Nodup := by
    refine List.pairwise_map.mpr (List.Pairwise.imp (fun {a b} hne e => hne (kk_inj e)) (List.Nodup.sublist (List.filter_sublist ..) (by decide : [false, true].Nodup)))
  refine sortS_congr ((List.perm_ext_iff_of_nodup (keysOf_nd hnd) nd2).mpr fun y => ?_)
  rw [keysOf_mem hnd n, List.mem_map]
  constructor
  · intro hy
    by_cases hm : y ∈ (q.dc.getD k []).map (·.1)
    · obtain ⟨p, hp, rfl⟩ := List.mem_map.mp hm
      obtain ⟨b, hb⟩ := hkk p hp
      refine ⟨b, List.mem_filter.mpr ⟨by cases b <;> simp, ?_⟩, hb.symm⟩
      rw [hb] at hy
      have : (sh8 n q b k).2 ≠ [] := hy
      simp [this]
    · rw [getS_no hm] at hy
      exact absurd rfl hy
  · rintro ⟨b, hb, rfl⟩
    have := (List.mem_filter.mp hb).2
    intro e
    have e' : (sh8 n q b k).2 = [] := e
    simp [e'] at this
theorem ks8_mem {b : Bool} {k : Nat} : b ∈ ks8 n q k ↔ (sh8 n q b k).2 ≠ [] := by
  unfold ks8
  rw [List.mem_filter]
  constructor
  · rintro ⟨_, h⟩ e
    simp [e] at h
  · intro h
    exact ⟨by cases b <;> simp, by simp [h]⟩
theorem kk_mem {b : Bool} {k : Nat} : kk b ∈ (ks8 n q k).map kk ↔ (sh8 n q b k).2 ≠ [] := by
  rw [← ks8_mem, List.mem_map]
  exact ⟨fun ⟨x, hx, e⟩ => kk_inj e ▸ hx, fun h => ⟨b, h, rfl⟩⟩
end
end KS
set_option maxHeartbeats 400000
namespace KS
open PySem PySem.Spec PyProof.Rows L2 DL
section
variable {Cl : Addr} {M0 : Mem} {n B m : Nat} {q : Q8} {dc : List Dct}
/-! ### law 08: the start -/
def q08 (n : Nat) : Q8 := ⟨List.replicate n [], [], List.range (2 * n), [], [], [], List.replicate (2 * n) []⟩
def kn0 (B m : Nat) : List (List Key × D) := (List.range m).map fun j => (kn8K j, D.res (B + (1 + j)))
def st8 (B m : Nat) : Mem := .dT (kn0 B m) :: List.replicate m (.dK [])
theorem kn0_put (B m : Nat) : putD (kn0 B m) (kn8K m) (.res (B + (1 + m))) = kn0 B (m + 1) := by
  rw [putX_no]
  · unfold kn0; rw [List.range_succ, List.map_append]; rfl
  · unfold kn0
    rw [List.map_map]
    intro h
    obtain ⟨j, hj, e⟩ := List.mem_map.mp h
    have := kn8K_inj e
    have := List.mem_range.mp hj
    omega
theorem st8_len : (st8 B m).length = m + 1 := by unfold st8; simp
theorem st8_step (hd : dc.length = n) : (memS Cl M0 n dc (st8 (B8 M0 n) m) ++ [MO.dK []]).set (B8 M0 n) (.dT (putD (kn0 (B8 M0 n) m) (kn8K m) (.res (memS Cl M0 n dc (st8 (B8 M0 n) m)).length))) = memS Cl M0 n dc (st8 (B8 M0 n) (m + 1)) := by
  have e : (memS Cl M0 n dc (st8 (B8 M0 n) m)).length = B8 M0 n + (1 + m) := by
    rw [memS_len hd, st8_len]; unfold B8; omega
  rw [e, kn0_put, memS_app]
  refine (memS_tset hd 0 _).trans (congrArg (memS Cl M0 n dc) ?_)
  show MO.dT (kn0 (B8 M0 n) (m + 1)) :: (List.replicate m (MO.dK []) ++ [MO.dK []]) = _
  unfold st8
  rw [List.replicate_succ']
theorem st8_get (hd : dc.length = n) (J : Mem) : (memS Cl M0 n dc (st8 (B8 M0 n) m) ++ J)[B8 M0 n]? = some (.dT (kn0 (B8 M0 n) m)) := by
  rw [memS_app]; exact memS_tail hd 0
theorem st8_end : memS Cl M0 n (List.replicate n []) (st8 (B8 M0 n) (2 * n)) ++ [MO.lst [], .lst [], .lst [], .lst [], .lst []] = mem8 Cl M0 n (q08 n) := by
  rw [memS_app]
  refine congrArg (memS Cl M0 n _) ?_
  unfold st8 T8 q08
  have e1 : kn8D (B8 M0 n) n (List.range (2 * n)) = kn0 (B8 M0 n) (2 * n) := by
    unfold kn8D kn0
    apply List.ext_getElem
    · simp
    · intro i h1 h2
      have hi : i < 2 * n := by simpa using h1
      simp [setD, adr, hi]
  rw [e1]
  simp [dk8, keysK, tl8]
theorem rep_getD {α : Type} (m k : Nat) : (List.replicate m ([] : List α)).getD k [] = [] := by
  rw [List.getD_eq_getElem?_getD, List.getElem?_replicate]
  split <;> rfl
theorem sh08 (n : Nat) (b : Bool) (k : Nat) : sh8 n (q08 n) b k = (blankI n, []) := by
  have : (q08 n).dc.getD k [] = [] := rep_getD n k
  unfold sh8
  rw [this]; rfl
theorem K08 (n : Nat) (b : Bool) (k : Nat) : K8 (q08 n) b k = [] := rep_getD (2 * n) _
theorem q08_ok (n : Nat) : Ok8 n 0 (q08 n) := by
  have hb : ∀ b, own8 n (q08 n) b = fun _ => 0 := fun b => by
    funext j
    unfold own8
    rw [sh08]
    exact blankI_getD n j
  refine ⟨by simp [q08], by simp [q08], fun i hi => ?_, by simp [q08], fun L hL => ?_, (fun c hc => nomatch hc), Nat.le_refl 0, Nat.le_refl 0, Nat.le_refl 0, fun b => ?_, fun b k hk => ?_, (fun x hx => nomatch hx), (fun x hx => nomatch hx), fun b => ⟨[], Nat.le_refl 0, fun k hk => ?_, (fun x hx => nomatch hx)⟩, fun d hd => ?_⟩
  · have := List.mem_range.mp hi
    simpa [q08] using this
  · have : L = [] := List.eq_of_mem_replicate hL
    subst this
    exact ⟨List.nodup_nil, (fun i hi => nomatch hi)⟩
  · rw [hb]
    exact ⟨(fun i c h => nomatch h), (fun i i' c c' h => nomatch h), fun j hj x h1 h2 => absurd h2 (by show ¬ x ≤ 0; omega), (fun i c h => nomatch h)⟩
  · rw [hb, sh08, K08]
    refine ⟨⟨List.nodup_nil, (fun i hi => nomatch hi), (fun i hi => nomatch hi), blank_len n, (fun i c h => nomatch h), fun j => ?_, fun j hj => ?_⟩, fun x => ⟨(fun h => nomatch h), ?_⟩⟩
    · show 0 ≤ (blankI n).getD j 0
      rw [blankI_getD]; exact Int.le_refl 0
    · show (blankI n).getD j 0 ≤ 0
      rw [blankI_getD]; exact Int.le_refl 0
    · rintro ⟨i, hi, _⟩
      cases hi
  · rw [sh08]; exact GS.blank n []
  · have : d = [] := List.eq_of_mem_replicate hd
    subst this
    exact ⟨List.nodup_nil, (fun p hp => nomatch hp)⟩
end
end KS
set_option maxHeartbeats 400000
namespace KS
open PySem PySem.Spec PyProof.Rows L2 DL
section
variable {Cl : Addr} {M0 M J : Mem} {n k t : Nat} {q : Q8} {b : Bool}
/-! ### law 08: the end -/
theorem get_ext {i : Nat} {x : MO} (h : M[i]? = some x) : (M ++ J)[i]? = some x := by
  rw [List.getElem?_append_left (List.getElem?_eq_some_iff.mp h).1]; exact h
theorem sDue8_ext {ds : List D} {d : D} (h : sDue8 ds M (.ok d M)) : sDue8 ds (M ++ J) (.ok d (M ++ J)) := by
  obtain ⟨a, i, m, cs, W, h1, h2, h3, h4, h5, h6, h7, h8⟩ := h
  refine ⟨a, i, m, cs, W, h1, get_ext h2, get_ext h3, h4, h5, fun p hp => ⟨get_ext (h6 p hp).1, (h6 p hp).2⟩, h7, ?_⟩
  cases h8; rfl
theorem put8_tl (u : List Int) (ui : Nat) (v : Option Int) : (put8 n q b k u ui v).tl = q.tl := by cases v <;> rfl
theorem deed8_tl (few : Bool) (c z : Int) : (deed8 n q few c z).2.tl = q.tl := by
  unfold deed8
  split
  · exact put8_tl _ _ _
  split
  · rfl
  split
  · rfl
  · rfl
theorem at_tl (l : List (List Int)) (v : List Int) : atI (tlD l ++ [.lst (intsD v)]) (-1) = some (.lst (intsD v)) := by
  have := at_lastm (f := fun v => D.lst (intsD v)) (xs := l) (x := v)
  rwa [List.map_append] at this
theorem tl_snoc (l : List (List Int)) (v : List Int) : tlD (l ++ [v]) = tlD l ++ [.lst (intsD v)] := List.map_append ..
theorem pl_tl (l : List (List Int)) : plD 2 (.lst (tlD l)) := .lst (.maps fun v _ => pl_ints (n := 0) v)
def ksD (L : List Bool) : List D := L.map fun b => .v (.str (kk b))
theorem pl_kk {m : Nat} (b : Bool) : plD m (.v (.str (kk b))) := .str (by cases b <;> decide +kernel)
theorem pl_ks {m : Nat} (L : List Bool) : plD (m + 1) (.lst (ksD L)) := .lst (.maps fun b _ => pl_kk b)
theorem pyds_ks : ∀ L : List Bool, pyds (ksD L) = L.map fun b => pyd (.v (.str (kk b)))
  | [] => rfl
  | b :: L => congrArg (pyd (.v (.str (kk b))) :: ·) (pyds_ks L)
theorem in_ks (L : List Bool) (b : Bool) : ((pyds (ksD L)).any fun z => PyData.eqv z (pyd (.v (.str (kk b))))) = decide (b ∈ L) := by
  rw [pyds_ks, Bool.eq_iff_iff, List.any_map, List.any_eq_true, decide_eq_true_eq]
  constructor
  · rintro ⟨x, hx, e⟩
    have e2 := (plD.eqv (pl_kk (m := 0) x) (pl_kk (m := 0) b)).mp e
    have := kk_inj (V.str.inj (D.v.inj e2))
    exact this ▸ hx
  · exact fun h => ⟨b, h, (plD.eqv (pl_kk (m := 0) b) (pl_kk (m := 0) b)).mpr rfl⟩
theorem keys_ksD (L : List Bool) : ((L.map kk).map fun x => D.v (.str x)) = ksD L := by unfold ksD; rw [List.map_map]; rfl
theorem ints_nil (L : List (List Int)) : PyData.eqv (pyd (.lst (intsD (valsI L)))) (pyd (.lst [])) = decide (L = []) := by
  have := plD.eqv (pl_ints (n := 0) (valsI L)) (plD.lst (n := 0) (ds := []) plD.nil)
  rw [Bool.eq_iff_iff, this, decide_eq_true_eq, ← vals_nil]
  unfold intsD
  simp
def pre8 (n : Nat) (q : Q8) (k j : Nat) : List Bool := ([false, true].take j).filter fun b => !decide ((sh8 n q b k).2 = [])
theorem pre8_no {j : Nat} (h : [false, true][j]? = some b) (e : (sh8 n q b k).2 = []) : pre8 n q k (j + 1) = pre8 n q k j := by
  unfold pre8
  rw [List.take_add_one, h, List.filter_append]
  simp [e]
theorem pre8_yes {j : Nat} (h : [false, true][j]? = some b) (e : (sh8 n q b k).2 ≠ []) : pre8 n q k (j + 1) = pre8 n q k j ++ [b] := by
  unfold pre8
  rw [List.take_add_one, h, List.filter_append]
  simp [e]
theorem pre8_len (j : Nat) : (pre8 n q k j).length ≤ 2 := by
  unfold pre8
  refine Nat.le_trans (List.length_filter_le _ _) ?_
  rw [List.length_take]
  exact Nat.min_le_right _ _
theorem set_end (L : Mem) (x y : MO) : (L ++ [x]).set L.length y = L ++ [y] := by simp
theorem get_end (L : Mem) (x : MO) : (L ++ [x])[L.length]? = some x := by simp
end
end KS
set_option maxHeartbeats 2000000
namespace K08
open PySem PySem.Spec PyProof.Rows L2 DL KS
def top (i : Nat) : Stmt := PySem.Challenge.pw_siblingshelf_k08_whole_just_the_unseen.main.body.getD i (.Pass ⟨0, 0, 0, 0⟩)
def mth (c i : Nat) : Stmt := match top c with
  | .ClassDef _ _ _ b _ _ _ _ _ _ _ => b.getD i (.Pass ⟨0, 0, 0, 0⟩)
  | s => s
/-- the names that the modules' text has -/
structure Names (K : PySem.W.Frag) (mg : Str → Option Value) : Prop where
  n_len : mg "len" = none
  n_max : mg "max" = none
  n_tuple : mg "tuple" = none
  n_list : mg "list" = none
  n_int : mg "int" = none
  n_bool : mg "bool" = none
  n_zip : mg "zip" = none
  n_range : mg "range" = none
  n_isinstance : mg "isinstance" = none
  n_sorted : mg "sorted" = none
  n_type : mg "type" = none
  n_all : mg "all" = none
  n_set : mg "set" = none
  n_enumerate : mg "enumerate" = none
  n_dict : mg "dict" = none
  c_FEWEST_KEEPERS : ∃ t, mg "FEWEST_KEEPERS" = some (.int 1 t)
  c_MOST_KEEPERS : ∃ t, mg "MOST_KEEPERS" = some (.int 9 t)
section
variable {P : Program} {w : World} {K : PySem.W.Frag} {mg : Str → Option Value} {base : Heap}
abbrev FnP (K : PySem.W.Frag) (x : Str) (i : Nat) (f : Addr) (fd : FuncData) : Prop := FunD K x x (defArgs (top i)) (defBody (top i)) (defScope (top i)) [] [] f fd
theorem sc_unl : FnScope ["one", "other"] ["one", "other"] (defScope (top 11)) := ⟨rfl, rfl, rfl, by decide +kernel, rfl, by decide +kernel, by decide +kernel⟩
theorem fd_unl (G : Names K mg) {f : Addr} {fd : FuncData} (F : FnP K "_refuse_unlike" 11 f fd) (hm : mg "_refuse_unlike" = some (.ref f)) : FD P w K mg base 1 "_refuse_unlike" 2 sUnlike0 := by
  refine fd_of F hm sc_unl rfl (fun _ _ _ _ _ _ us hl => match us, hl with | [_, _], _ => rfl) fun A ds M r hr hl hs => ?_
  obtain ⟨a, b, rfl, h, rfl⟩ := hs
  refine ⟨.nx _ M, rfl, sds_one (sd_ifN (td_ne (ed_len_tup (ed_var 0) G.n_len) (ed_len_tup (ed_var 1) G.n_len)) ?_)⟩
  rw [intsD_len, intsD_len, h]; simp
theorem sc_join : FnScope ["one", "other", "first", "second"] ["one", "other"] (defScope (top 9)) := ⟨rfl, rfl, rfl, by decide +kernel, rfl, by decide +kernel, by decide +kernel⟩
theorem fd_join (G : Names K mg) (U : FD P w K mg base 1 "_refuse_unlike" 2 sUnlike0) {f : Addr} {fd : FuncData} (F : FnP K "joined" 9 f fd) (hm : mg "joined" = some (.ref f)) : FD P w K mg base 2 "joined" 2 sJoined0 := by
  refine fd_of F hm sc_join rfl (fun _ _ _ _ _ _ us hl => match us, hl with | [_, _], _ => rfl) fun A ds M r hr hl hs => ?_
  obtain ⟨a, b, rfl, h, hz, rfl⟩ := hs
  have nd := sc_join.nd
  refine ⟨.rt (tupI (joinI a b)) M, rfl, sds_cons (sd_expr (ed_call U hr (ad_cons (ed_var 0) (ad_cons (ed_var 1) ad_nil)) ⟨a, b, rfl, h, rfl⟩)) (sds_one (sd_ret (ED.is (ed_tupleL (ed_lcm (own := [("first", 2), ("second", 3)]) (a.zip b) (fun p => pairD (dInt p.1) (dInt p.2)) (fun p => dInt (max p.1 p.2)) rfl nd (bOk (by decide +kernel))
      (id_zipI (ad_cons (ed_var 0) (ad_cons (ed_var 1) ad_nil)) G.n_zip) trivial ?_ (fun x hx => ⟨_, (gd_tup (gsd_cons (gd_name 2 nd) (gsd_cons (gd_name 3 nd) gsd_nil)) rfl), (ed_max2 (ad_cons (ed_var 2) (ad_cons (ed_var 3) ad_nil)) rfl G.n_max)⟩)) G.n_tuple) ?_)))⟩
  · rw [List.length_zip]; omega
  · unfold joinI tupI intsD
    rw [List.zip, List.map_zipWith, List.map_zipWith]
theorem sc_seen : FnScope ["mark", "keeper", "number"] ["mark", "keeper", "number"] (defScope (top 10)) := ⟨rfl, rfl, rfl, by decide +kernel, rfl, by decide +kernel, by decide +kernel⟩
theorem fd_seen {f : Addr} {fd : FuncData} (F : FnP K "has_seen" 10 f fd) (hm : mg "has_seen" = some (.ref f)) : FD P w K mg base 1 "has_seen" 3 sSeen := by
  refine fd_of F hm sc_seen rfl (fun _ _ _ _ _ _ us hl => match us, hl with | [_, _, _], _ => rfl) fun A ds M r hr hl hs => ?_
  obtain ⟨m, k, n, i, x, rfl, rfl, hx, rfl⟩ := hs
  exact ⟨.rt _ M, rfl, sds_one (sd_ret (ed_le (ed_var 2) (ed_ixT (ed_var 0) (ed_var 1) (atI_ints hx))))⟩
theorem sc_uns : FnScope ["rows", "mark", "row"] ["rows", "mark"] (defScope (top 16)) := ⟨rfl, rfl, rfl, by decide +kernel, rfl, by decide +kernel, by decide +kernel⟩
theorem fd_uns (U : FD P w K mg base 1 "has_seen" 3 sSeen) {f : Addr} {fd : FuncData} (F : FnP K "_unseen" 16 f fd) (hm : mg "_unseen" = some (.ref f)) : FD P w K mg base 2 "_unseen" 2 sUnseen := by
  refine fd_of F hm sc_uns rfl (fun _ _ _ _ _ _ us hl => match us, hl with | [_, _], _ => rfl) fun A ds M r hr hl hs => ?_
  obtain ⟨d, L, m, rfl, hv, hz, hL, rfl⟩ := hs
  have nd := sc_uns.nd
  refine ⟨.rt _ _, rfl, sds_one (sd_ret (ed_lcR (own := [("row", 2)]) L tupI (unseenB m) tupI rfl nd (bOk (by decide +kernel)) (id_V (ed_var 0) hv) hv hz (fun x hx => ?_)))⟩
  obtain ⟨k, n, v, y, rfl, hy⟩ := hL x hx
  have e0 : atI (intsD [(k : Int), n, v]) 0 = some (dInt k) := rfl
  have e1 : atI (intsD [(k : Int), n, v]) 1 = some (dInt n) := rfl
  refine ⟨_, gd_name 2 nd, tsd_one (TD.is (td_not (td_val (ed_call U hr (ad_cons (ed_var 1) (ad_cons (ed_ixT (ed_var 2) ed_int e0) (ad_cons (ed_ixT (ed_var 2) ed_int e1) ad_nil))) ⟨m, k, n, k, y, rfl, rfl, hy, rfl⟩))) ?_), fun h => ed_var 2⟩
  exact (unseenB_of hy).symm
theorem sc_unsF : FnScope ["rows", "mark", "row"] ["rows", "mark"] (defScope (top 16)) := ⟨rfl, rfl, rfl, by decide +kernel, rfl, by decide +kernel, by decide +kernel⟩
theorem fd_unsF (U : FD P w K mg base 1 "has_seen" 3 sSeen) {f : Addr} {fd : FuncData} (F : FnP K "_unseen" 16 f fd) (hm : mg "_unseen" = some (.ref f)) : FD P w K mg base 2 "_unseen" 2 sUnseenF := by
  refine fd_of F hm sc_unsF rfl (fun _ _ _ _ _ _ us hl => match us, hl with | [_, _], _ => rfl) fun A ds M r hr hl hs => ?_
  obtain ⟨d, L, m, rfl, hv, hz, hL, rfl⟩ := hs
  have nd := sc_unsF.nd
  refine ⟨.rt _ _, rfl, sds_one (sd_ret (ed_lc (own := [("row", 2)]) L tupI (unseenB m) tupI rfl nd (bOk (by decide +kernel)) (id_V (ed_var 0) hv) hv hz (fun x hx => ?_)))⟩
  obtain ⟨k, n, v, y, rfl, hy⟩ := hL x hx
  have e0 : atI (intsD [(k : Int), n, v]) 0 = some (dInt k) := rfl
  have e1 : atI (intsD [(k : Int), n, v]) 1 = some (dInt n) := rfl
  refine ⟨_, gd_name 2 nd, tsd_one (TD.is (td_not (td_val (ed_call U hr (ad_cons (ed_var 1) (ad_cons (ed_ixT (ed_var 2) ed_int e0) (ad_cons (ed_ixT (ed_var 2) ed_int e1) ad_nil))) ⟨m, k, n, k, y, rfl, rfl, hy, rfl⟩))) ?_), fun h => ed_var 2⟩
  exact (unseenB_of hy).symm
theorem sc_drop : FnScope ["shelf", "mark"] ["shelf", "mark"] (defScope (top 14)) := ⟨rfl, rfl, rfl, by decide +kernel, rfl, by decide +kernel, by decide +kernel⟩
theorem fd_drop (UJ : FD P w K mg base 2 "joined" 2 sJoined0) (UU : FD P w K mg base 2 "_unseen" 2 sUnseen) {f : Addr} {fd : FuncData} (F : FnP K "dropped" 14 f fd) (hm : mg "dropped" = some (.ref f)) : FD P w K mg base 3 "dropped" 2 sDropped := by
  refine fd_of F hm sc_drop rfl (fun _ _ _ _ _ _ us hl => match us, hl with | [_, _], _ => rfl) fun A ds M r hr hl hs => ?_
  obtain ⟨a, d, L, m, rfl, hv, hz, hL, ha, ha2, rfl⟩ := hs
  have e0 : atI [tupI a, d] 0 = some (tupI a) := rfl
  have e1 : atI [tupI a, d] 1 = some d := rfl
  exact ⟨.rt _ _, rfl, sds_one (sd_ret (ed_tup (ad_cons (ed_call UJ hr (ad_cons (ed_ixT (ed_var 0) ed_int e0) (ad_cons (ed_var 1) ad_nil)) ⟨a, m, rfl, ha, ha2, rfl⟩) (ad_cons (ed_call UU hr (ad_cons (ed_ixT (ed_var 0) ed_int e1) (ad_cons (ed_var 1) ad_nil)) ⟨d, L, m, rfl, hv, hz, hL, rfl⟩) ad_nil))))⟩
theorem sc_dropF : FnScope ["shelf", "mark"] ["shelf", "mark"] (defScope (top 14)) := ⟨rfl, rfl, rfl, by decide +kernel, rfl, by decide +kernel, by decide +kernel⟩
theorem fd_dropF (UJ : FD P w K mg base 2 "joined" 2 sJoined0) (UU : FD P w K mg base 2 "_unseen" 2 sUnseenF) {f : Addr} {fd : FuncData} (F : FnP K "dropped" 14 f fd) (hm : mg "dropped" = some (.ref f)) : FD P w K mg base 3 "dropped" 2 sDroppedF := by
  refine fd_of F hm sc_dropF rfl (fun _ _ _ _ _ _ us hl => match us, hl with | [_, _], _ => rfl) fun A ds M r hr hl hs => ?_
  obtain ⟨a, d, L, m, rfl, hv, hz, hL, ha, ha2, rfl⟩ := hs
  have e0 : atI [tupI a, d] 0 = some (tupI a) := rfl
  have e1 : atI [tupI a, d] 1 = some d := rfl
  exact ⟨.rt _ _, rfl, sds_one (sd_ret (ed_tup (ad_cons (ed_call UJ hr (ad_cons (ed_ixT (ed_var 0) ed_int e0) (ad_cons (ed_var 1) ad_nil)) ⟨a, m, rfl, ha, ha2, rfl⟩) (ad_cons (ed_call UU hr (ad_cons (ed_ixT (ed_var 0) ed_int e1) (ad_cons (ed_var 1) ad_nil)) ⟨d, L, m, rfl, hv, hz, hL, rfl⟩) ad_nil))))⟩
theorem sc_wn : FnScope ["mark", "keeper", "number"] ["mark", "keeper", "number"] (defScope (top 17)) := ⟨rfl, rfl, rfl, by decide +kernel, rfl, by decide +kernel, by decide +kernel⟩
theorem fd_wn {f : Addr} {fd : FuncData} (F : FnP K "_with_number" 17 f fd) (hm : mg "_with_number" = some (.ref f)) : FD P w K mg base 1 "_with_number" 3 sWith := by
  refine fd_of F hm sc_wn rfl (fun _ _ _ _ _ _ us hl => match us, hl with | [_, _, _], _ => rfl) fun A ds M r hr hl hs => ?_
  obtain ⟨m, k, n, rfl, hk, hz, rfl⟩ := hs
  have e1 : (((k : Nat) : Int) + 1) = ((k + 1 : Nat) : Int) := by omega
  refine ⟨.rt (tupI (m.set k n)) M, rfl, sds_one (sd_ret (ED.is (ed_catT (ed_catT (ED.is (ed_sliceT (ed_var 0) .no (.is (ed_var 1))) (congrArg D.tup (cut_take m k))) (ed_tup (ad_cons (ed_var 2) ad_nil)) ?_) (ED.is (ed_sliceT (ed_var 0) (.is (ED.is (ed_add (ed_var 1) ed_int) (congrArg dInt e1))) .no) (congrArg D.tup (cut_drop m (k + 1)))) ?_) ?_))⟩
  · rw [intsD_len, List.length_take]; simp; omega
  · rw [List.length_append, intsD_len, intsD_len, List.length_take, List.length_drop]; simp; omega
  · refine congrArg D.tup ?_
    rw [List.set_eq_take_append_cons_drop, if_pos hk]
    simp [intsD]
theorem sc_put : FnScope ["shelf", "keeper", "value", "mark", "number", "both", "rows"] ["shelf", "keeper", "value", "mark"] (defScope (top 13)) := ⟨rfl, rfl, rfl, by decide +kernel, rfl, by decide +kernel, by decide +kernel⟩
theorem fd_put (G : Names K mg) (UD : FD P w K mg base 3 "dropped" 2 sDropped) (UW : FD P w K mg base 1 "_with_number" 3 sWith) {f : Addr} {fd : FuncData} (F : FnP K "put_on" 13 f fd) (hm : mg "put_on" = some (.ref f)) : FD P w K mg base 4 "put_on" 4 sPut := by
  refine fd_ofJ F hm sc_put rfl (fun _ _ _ _ _ _ us hl => match us, hl with | [_, _, _, _], _ => rfl) fun A ds M r hr hl hs => ?_
  obtain ⟨a, d, L, m, k, v, y, rfl, hv, hz, hL, ha, ha2, hk, rfl⟩ := hs
  have nd := sc_put.nd
  have e0 : atI [tupI a, d] 0 = some (tupI a) := rfl
  have hkl : k < (joinI a m).length := by rw [joinI_len ha]; exact (List.getElem?_eq_some_iff.mp hk).1
  have hML : (M ++ [MO.lst (rowsD (L.filter (unseenB m)))])[M.length]? = some (.lst (rowsD (L.filter (unseenB m)))) := by simp
  have hfl := List.length_filter_le (unseenB m) L
  refine exs_cons (sd_set 4 (ed_add (ed_ixT (ed_ixT (ed_var 0) ed_int e0) (ed_var 1) (atI_ints hk)) ed_int) nd) ?_
  refine exs_cons (sd_asg (ed_call UD hr (ad_cons (ed_var 0) (ad_cons (ed_var 3) ad_nil)) ⟨a, d, L, m, rfl, hv, by omega, hL, ha, ha2, rfl⟩) (gd_tup (gsd_cons (gd_name 5 nd) (gsd_cons (gd_name 6 nd) gsd_nil)) rfl)) ?_
  refine ⟨_, ?_, sds_one (sd_ret (ed_tup (ad_cons (ed_call UW (hr.mono (by decide)) (ad_cons (ed_var 5) (ad_cons (ed_var 1) (ad_cons (ed_var 4) ad_nil))) ⟨joinI a m, k, y + 1, rfl, hkl, by rw [joinI_len ha]; exact ha2, rfl⟩)
    (ad_cons (ed_sortV (L := L.filter (unseenB m) ++ [[(k : Int), y + 1, v]]) (ED.is (ed_lst (ad_star (ed_var 6) (lvR hML) (ad_cons (ED.is (ed_tup (ad_cons (ed_var 1) (ad_cons (ed_var 4) (ad_cons (ed_var 2) ad_nil)))) rfl) ad_nil)) ?_) ?_) lvL ?_ G.n_sorted) ad_nil))))⟩
  · exact fit_rt _ (D.fz_under (shelf_fz _ _))
  · rw [List.length_append, List.length_map]; simp; omega
  · rw [rowsD, rowsD, List.map_append]; rfl
  · intro r hr
    rcases List.mem_append.mp hr with h | h
    · exact hL.filter.ne r h
    · have : r = [(k : Int), y + 1, v] := by simpa using h
      subst this
      simp
theorem sc_met : FnScope ["one", "other", "mark", "rows", "other_mark", "other_rows", "on_both", "unseen"] ["one", "other"] (defScope (top 15)) := ⟨rfl, rfl, rfl, by decide +kernel, rfl, by decide +kernel, by decide +kernel⟩
theorem fd_met (G : Names K mg) (UJ : FD P w K mg base 2 "joined" 2 sJoined0) (UU : FD P w K mg base 2 "_unseen" 2 sUnseenF) {f : Addr} {fd : FuncData} (F : FnP K "met" 15 f fd) (hm : mg "met" = some (.ref f)) : FD P w K mg base 3 "met" 2 sMet := by
  refine fd_of F hm sc_met rfl (fun _ _ _ _ _ _ us hl => match us, hl with | [_, _], _ => rfl) fun A ds M r hr hl hs => ?_
  obtain ⟨a, b, d1, d2, L1, L2, rfl, v1, v2, ro1, ro2, hab, hz, hn, l1, l2, hs⟩ := hs
  have nd := sc_met.nd
  have hA : A.units + 64 < cLine := hr.units
  have hlen : (metL a b L1 L2).length ≤ 200 := by
    unfold metL
    rw [List.length_append, List.length_append]
    have h1 := bothI_len L1 L2
    have h2 := List.length_filter_le (unseenB b) L1
    have h3 := List.length_filter_le (unseenB a) L2
    omega
  have h2 := List.length_filter_le (unseenB b) L1
  have h3 := List.length_filter_le (unseenB a) L2
  have h4 := bothI_len L1 L2
  suffices key : ∀ o, outRes o = some r → SDs (fnC P w K mg base ["one", "other", "mark", "rows", "other_mark", "other_rows", "on_both", "unseen"] "met" (defScope (top 15)) A)
      [some (.tup [tupI a, d1]), some (.tup [tupI b, d2]), some (tupI a), some d1, some (tupI b), some d2, some (.lst (rowsD (bothI L1 L2))), some (.lst (rowsD (L1.filter (unseenB b)) ++ rowsD (L2.filter (unseenB a))))] M [(defBody (top 15)).getD 4 (.Pass ⟨0, 0, 0, 0⟩)] o →
      ∃ o, outRes o = some r ∧ SDs (fnC P w K mg base ["one", "other", "mark", "rows", "other_mark", "other_rows", "on_both", "unseen"] "met" (defScope (top 15)) A) (startS ["one", "other", "mark", "rows", "other_mark", "other_rows", "on_both", "unseen"] [.tup [tupI a, d1], .tup [tupI b, d2]]) M (defBody (top 15)) o by
    rcases hs with rfl | rfl
    · refine key _ rfl (sds_one (sd_ret (ed_tup (ad_cons (ed_call UJ hr (ad_cons (ed_var 2) (ad_cons (ed_var 4) ad_nil)) ⟨a, b, rfl, hab, hz, rfl⟩) (ad_cons (ed_sortV (L := metL a b L1 L2) (ED.is (ed_catL (ed_var 6) (ed_var 7) lvL lvL ?_) ?_) lvL (metL_ne ro1 ro2) G.n_sorted) ad_nil)))))
      · rw [List.length_append, List.length_map, List.length_map, List.length_map]; omega
      · unfold metL rowsD; rw [List.map_append, List.map_append]
    · refine key _ rfl (sds_one (sd_ret (ed_tup (ad_cons (ed_call UJ hr (ad_cons (ed_var 2) (ad_cons (ed_var 4) ad_nil)) ⟨a, b, rfl, hab, hz, rfl⟩) (ad_cons (ed_sortVR (L := metL a b L1 L2) (ED.is (ed_catL (ed_var 6) (ed_var 7) lvL lvL ?_) ?_) lvL (metL_ne ro1 ro2) G.n_sorted) ad_nil)))))
      · rw [List.length_append, List.length_map, List.length_map, List.length_map]; omega
      · unfold metL rowsD; rw [List.map_append, List.map_append]
  intro o ho hlast
  refine ⟨o, ho, ?_⟩
  refine sds_cons (sd_asg (ed_var 0) (gd_tup (gsd_cons (gd_name 2 nd) (gsd_cons (gd_name 3 nd) gsd_nil)) rfl)) ?_
  refine sds_cons (sd_asg (ed_var 1) (gd_tup (gsd_cons (gd_name 4 nd) (gsd_cons (gd_name 5 nd) gsd_nil)) rfl)) ?_
  refine sds_cons (sd_set 6 (ed_both (ed_var 3) (ed_var 5) v1 v2 hn ro1.ne l1 l2 rfl hA G.n_sorted G.n_set) nd) ?_
  refine sds_cons (sd_set 7 (ed_catL (ed_call UU hr (ad_cons (ed_var 3) (ad_cons (ed_var 4) ad_nil)) ⟨d1, L1, b, rfl, v1, by omega, ro1.len hab, rfl⟩) (ed_call UU hr (ad_cons (ed_var 5) (ad_cons (ed_var 2) ad_nil)) ⟨d2, L2, a, rfl, v2, by omega, ro2.len hab.symm, rfl⟩) lvL lvL ?_) nd) hlast
  rw [List.length_map, List.length_map]; omega
theorem sc_blank : FnScope ["many"] ["many"] (defScope (top 8)) := ⟨rfl, rfl, rfl, by decide +kernel, rfl, by decide +kernel, by decide +kernel⟩
theorem fd_blank (G : Names K mg) {f : Addr} {fd : FuncData} (F : FnP K "blank" 8 f fd) (hm : mg "blank" = some (.ref f)) : FD P w K mg base 1 "blank" 1 sBlank0 := by
  refine fd_of F hm sc_blank rfl (fun _ _ _ _ _ _ us hl => match us, hl with | [_], _ => rfl) fun A ds M r hr hl hs => ?_
  obtain ⟨n, rfl, h1, h9, rfl⟩ := hs
  obtain ⟨t1, c1⟩ := G.c_FEWEST_KEEPERS
  obtain ⟨t2, c2⟩ := G.c_MOST_KEEPERS
  refine ⟨.rt (tupI (blankI n)) M, rfl, sds_cons (sd_ifN (td_w (wd_or (td_lt (ed_var 0) (ed_globI c1)) fun _ => wd_or1 (td_gt (ed_var 0) (ed_globI c2)))) ?_) (sds_one (sd_ret ((ed_tupMul (d := dInt 0) (ed_tup (ad_cons ed_int ad_nil)) (ed_var 0) (by omega) (by omega)).is ?_)))⟩
  · simp; omega
  · unfold tupI intsD blankI
    rw [List.map_replicate, Int.toNat_natCast]
theorem sc_ism : FnScope ["mark", "many", "number"] ["mark", "many"] (defScope (top 20)) := ⟨rfl, rfl, rfl, by decide +kernel, rfl, by decide +kernel, by decide +kernel⟩
theorem fd_ism (G : Names K mg) {f : Addr} {fd : FuncData} (F : FnP K "_is_mark" 20 f fd) (hm : mg "_is_mark" = some (.ref f)) : FD P w K mg base 1 "_is_mark" 2 sIsMark := by
  refine fd_of F hm sc_ism rfl (fun _ _ _ _ _ _ us hl => match us, hl with | [_, _], _ => rfl) fun A ds M r hr hl hs => ?_
  obtain ⟨m, n, rfl, hn, hz, h0, rfl⟩ := hs
  have nd := sc_ism.nd
  refine ⟨.rt (.v (.bl true)) M, rfl, sds_cons (sd_ifN (td_w (wd_or (td_not (td_val (ed_isinst "tuple" true (ad_cons (ed_var 0) (ad_cons (ed_bltnT G.n_tuple boot_tuple) ad_nil)) G.n_isinstance))) fun _ => wd_or1 (td_ne (ed_len_tupI (ed_var 0) G.n_len) (ed_var 1)))) ?_)
    (sds_one (sd_ret (ED.is (ed_all (bs := m.map fun x => decide (0 ≤ x)) (ED.is (ed_lcm (own := [("number", 2)]) m dInt (fun x => .v (.bl (decide (0 ≤ x)))) rfl nd (bOk (by decide +kernel)) (id_tup (ed_var 0)) trivial (by omega) (fun x hx => ⟨_, gd_name 2 nd, ED.is (ed_and (ed_typeIs (ed_var 2) "int" G.n_type (ed_bltnT G.n_int boot_int)) fun _ => ed_one (ed_ge (ed_var 2) ed_int)) (by simp)⟩)) ?_) rfl G.n_all) ?_)))⟩
  · rw [hn]; simp
  · rw [List.map_map]; rfl
  · rw [isMark_all h0]
theorem sc_rnk : FnScope ["self", "keeper"] ["self", "keeper"] (defScope (mth 19 8)) := ⟨rfl, rfl, rfl, by decide +kernel, rfl, by decide +kernel, by decide +kernel⟩
theorem md_rnk (G : Names K mg) {Cl : Addr} (Z : StC K mg Cl) {f : Addr} {fd : FuncData} (F : FunD K "_refuse_no_keeper" "Store._refuse_no_keeper" (defArgs (mth 19 8)) (defBody (mth 19 8)) (defScope (mth 19 8)) [] [] f fd) (hm : Meth K Cl "_refuse_no_keeper" f) : MDf P w K mg base 1 Cl "_refuse_no_keeper" 2 (sNoKeeper Cl) := by
  refine md_of F hm Z.c sc_rnk rfl (fun _ _ _ _ _ _ us hl => match us, hl with | [_, _], _ => rfl) fun A ds M r hr hl hs => ?_
  obtain ⟨i, k, n, is, hM, hk, rfl, rfl⟩ := hs
  refine ⟨.nx _ M, .is rfl, sds_one (sd_ifN (td_w (wd_or (td_lt (ed_var 1) ed_int) fun _ => wd_or1 (td_ge (ed_var 1) (ed_len_tupI (ed_fld Z.c Z.nb (ed_var 0) hM (fld_blank n is)) G.n_len)))) ?_)⟩
  simp [blankI]; omega
theorem sc_rbm : FnScope ["self", "mark"] ["self", "mark"] (defScope (mth 19 9)) := ⟨rfl, rfl, rfl, by decide +kernel, rfl, by decide +kernel, by decide +kernel⟩
theorem md_rbm (G : Names K mg) {Cl : Addr} (Z : StC K mg Cl) (U : FD P w K mg base 1 "_is_mark" 2 sIsMark) {f : Addr} {fd : FuncData} (F : FunD K "_refuse_bad_mark" "Store._refuse_bad_mark" (defArgs (mth 19 9)) (defBody (mth 19 9)) (defScope (mth 19 9)) [] [] f fd) (hm : Meth K Cl "_refuse_bad_mark" f) : MDf P w K mg base 2 Cl "_refuse_bad_mark" 2 (sBadMark Cl) := by
  refine md_of F hm Z.c sc_rbm rfl (fun _ _ _ _ _ _ us hl => match us, hl with | [_, _], _ => rfl) fun A ds M r hr hl hs => ?_
  obtain ⟨i, n, is, m, hM, hn9, rfl, hn, h0, rfl⟩ := hs
  exact ⟨.nx _ M, .is rfl, sds_one (sd_ifN (td_not (td_val (ed_call U hr (ad_cons (ed_var 1) (ad_cons (ed_len_tupI (ed_fld Z.c Z.nb (ed_var 0) hM (fld_blank n is)) G.n_len) ad_nil)) ⟨m, (blankI n).length, rfl, by simp [blankI, hn], by simp [blankI]; omega, h0, rfl⟩))) rfl)⟩
theorem sc_shf : FnScope ["self", "keeper", "key"] ["self", "keeper", "key"] (defScope (mth 19 7)) := ⟨rfl, rfl, rfl, by decide +kernel, rfl, by decide +kernel, by decide +kernel⟩
theorem md_shf {Cl : Addr} (Z : StC K mg Cl) {f : Addr} {fd : FuncData} (F : FunD K "_shelf" "Store._shelf" (defArgs (mth 19 7)) (defBody (mth 19 7)) (defScope (mth 19 7)) [] [] f fd) (hm : Meth K Cl "_shelf" f) : MDf P w K mg base 1 Cl "_shelf" 3 (sShelfOf Cl) := by
  refine md_of F hm Z.c sc_shf rfl (fun _ _ _ _ _ _ us hl => match us, hl with | [_, _, _], _ => rfl) fun A ds M r hr hl hs => ?_
  obtain ⟨i, k, x, n, is, dc, d, key, h, rfl, rfl⟩ := hs
  have hA : A.units + 1 < cLine := Nat.lt_of_le_of_lt (by omega) hr.units
  exact ⟨.rt _ M, .is rfl, sds_one (sd_ret (ED.is (ed_dget2 (kvs := dcD d) (key := .inr key) hA (ed_ixL (ed_fld Z.c Z.ns (ed_var 0) h.own (fld_shelves n is)) (ed_var 1) (is_at h.hx)) (ed_var 2) (ed_tup (ad_cons (ed_fld Z.c Z.nb (ed_var 0) h.own (fld_blank n is)) (ad_cons (ed_lst ad_nil) ad_nil))) h.dict h.dict) (shelf_at n d key)))⟩
theorem sc_look : FnScope ["self", "keeper", "key", "mark", "rows", "row"] ["self", "keeper", "key"] (defScope (mth 19 1)) := ⟨rfl, rfl, rfl, by decide +kernel, rfl, by decide +kernel, by decide +kernel⟩
theorem md_look {Cl : Addr} (Z : StC K mg Cl) (UR : MDf P w K mg base 1 Cl "_refuse_no_keeper" 2 (sNoKeeper Cl)) (US : MDf P w K mg base 1 Cl "_shelf" 3 (sShelfOf Cl)) {f : Addr} {fd : FuncData} (F : FunD K "look" "Store.look" (defArgs (mth 19 1)) (defBody (mth 19 1)) (defScope (mth 19 1)) [] [] f fd) (hm : Meth K Cl "look" f) : MDf P w K mg base 2 Cl "look" 3 (sLook Cl) := by
  refine md_of F hm Z.c sc_look rfl (fun _ _ _ _ _ _ us hl => match us, hl with | [_, _, _], _ => rfl) fun A ds M r hr hl hs => ?_
  obtain ⟨i, k, x, n, is, dc, d, key, h, hg, rfl, hr2⟩ := hs
  have nd := sc_look.nd
  have e2 : ∀ x ∈ (getS n d key).2, ∃ a b v, x = [a, b, v] := fun x hx => by
    obtain ⟨k', b, v, y, e, _⟩ := hg.rows x hx
    exact ⟨_, _, _, e⟩
  have hz : (getS n d key).2.length ≤ 100000 := Nat.le_trans hg.few (by decide)
  have key0 : ∀ x ∈ (getS n d key).2, atI (intsD x) 2 = some (dInt (x.getD 2 0)) := fun x hx => by
    obtain ⟨a, b, v, rfl⟩ := e2 x hx
    rfl
  have ev : (getS n d key).2.map (fun x => dInt (x.getD 2 0)) = intsD (valsI (getS n d key).2) := by unfold intsD valsI; rw [List.map_map]; rfl
  refine exs_cons (sd_expr (ed_meth UR hr (ed_var 0) (ad_cons (ed_var 1) ad_nil) h.own rfl ⟨i, k, n, is, h.own, h.lt, rfl, rfl⟩)) ?_
  refine exs_cons (sd_asg (d := .tup [tupI (getS n d key).1, .lst (rowsD (getS n d key).2)]) (ed_meth US hr (ed_var 0) (ad_cons (ed_var 1) (ad_cons (ed_var 2) ad_nil)) h.own rfl ⟨i, k, x, n, is, dc, d, key, h, rfl, rfl⟩) (gd_tup (gsd_cons (gd_name 3 nd) (gsd_cons (gd_name 4 nd) gsd_nil)) rfl)) ?_
  rcases hr2 with rfl | rfl
  · exact ⟨_, .is rfl, sds_one (sd_ret (ED.is (ed_tup (ad_cons (ed_lcm (own := [("row", 5)]) (getS n d key).2 tupI (fun x => dInt (x.getD 2 0)) rfl nd (bOk (by decide +kernel)) (id_lst (ed_var 4)) trivial hz (fun x hx => ⟨_, gd_name 5 nd, ed_ixT (ed_var 5) ed_int (key0 x hx)⟩)) (ad_cons (ed_var 3) ad_nil))) (by rw [ev])))⟩
  · rw [← ev]
    exact ⟨_, .is rfl, sds_one (sd_ret (ed_tup (ad_cons (ed_lcmR (own := [("row", 5)]) (getS n d key).2 tupI (fun x => dInt (x.getD 2 0)) rfl nd (bOk (by decide +kernel)) (id_lst (ed_var 4)) trivial hz (fun x hx => ⟨_, gd_name 5 nd, ed_ixT (ed_var 5) ed_int (key0 x hx)⟩)) (ad_cons (ed_var 3) ad_nil))))⟩
theorem sc_sput : FnScope ["self", "keeper", "key", "value", "mark"] ["self", "keeper", "key", "value", "mark"] (defScope (mth 19 2)) := ⟨rfl, rfl, rfl, by decide +kernel, rfl, by decide +kernel, by decide +kernel⟩
theorem md_put {Cl : Addr} (Z : StC K mg Cl) (UR : MDf P w K mg base 1 Cl "_refuse_no_keeper" 2 (sNoKeeper Cl)) (UB : MDf P w K mg base 2 Cl "_refuse_bad_mark" 2 (sBadMark Cl)) (US : MDf P w K mg base 1 Cl "_shelf" 3 (sShelfOf Cl)) (UP : FD P w K mg base 4 "put_on" 4 sPut) {f : Addr} {fd : FuncData} (F : FunD K "put" "Store.put" (defArgs (mth 19 2)) (defBody (mth 19 2)) (defScope (mth 19 2)) [] [] f fd) (hm : Meth K Cl "put" f) : MDf P w K mg base 5 Cl "put" 5 (sStPut Cl) := by
  refine md_of F hm Z.c sc_sput rfl (fun _ _ _ _ _ _ us hl => match us, hl with | [_, _, _, _, _], _ => rfl) fun A ds M r hr hl hs => ?_
  obtain ⟨i, k, x, n, is, dc, d, key, v, m, h, hg, hn9, hmn, h0, hdl, rfl, rfl⟩ := hs
  have hA : A.units + 1 < cLine := Nat.lt_of_le_of_lt (by omega) hr.units
  have r1 : Room 1 A := hr.mono (by decide)
  have hk : (getS n d key).1[k]? = some ((getS n d key).1.getD k 0) := get_getD (by rw [hg.len]; exact h.lt)
  rw [← putD_dc]
  refine exs_cons (sd_expr (ed_meth UR r1 (ed_var 0) (ad_cons (ed_var 1) ad_nil) h.own rfl ⟨i, k, n, is, h.own, h.lt, rfl, rfl⟩)) ?_
  refine exs_cons (sd_expr (ed_meth UB (hr.mono (by decide)) (ed_var 0) (ad_cons (ed_var 4) ad_nil) h.own rfl ⟨i, n, is, m, h.own, hn9, rfl, hmn, h0, rfl⟩)) ?_
  refine ⟨.nx _ _, .is rfl, sds_one (sd_dputK (key := .inr key) hA (ed_call UP hr (ad_cons (ed_meth US r1 (ed_var 0) (ad_cons (ed_var 1) (ad_cons (ed_var 2) ad_nil)) h.own rfl ⟨i, k, x, n, is, dc, d, key, h, rfl, rfl⟩) (ad_cons (ed_var 1) (ad_cons (ed_var 3) (ad_cons (ed_var 4) ad_nil)))) ⟨(getS n d key).1, _, (getS n d key).2, m, k, v, _, rfl, lvL, Nat.le_trans hg.few (by decide), hg.rows.len (by rw [hg.len, hmn]), by rw [hg.len, hmn], by rw [hg.len]; omega, hk, rfl⟩)
    (ed_ixL (ed_fld Z.c Z.ns (ed_var 0) h.own (fld_shelves n is)) (ed_var 1) (is_at h.hx)) (ed_var 2) h.dict ?_)⟩
  unfold dcD; rw [List.length_map]; omega
theorem sc_sdrop : FnScope ["self", "keeper", "key", "mark"] ["self", "keeper", "key", "mark"] (defScope (mth 19 3)) := ⟨rfl, rfl, rfl, by decide +kernel, rfl, by decide +kernel, by decide +kernel⟩
theorem md_drop {Cl : Addr} (Z : StC K mg Cl) (UR : MDf P w K mg base 1 Cl "_refuse_no_keeper" 2 (sNoKeeper Cl)) (UB : MDf P w K mg base 2 Cl "_refuse_bad_mark" 2 (sBadMark Cl)) (US : MDf P w K mg base 1 Cl "_shelf" 3 (sShelfOf Cl)) (UD : FD P w K mg base 3 "dropped" 2 sDroppedF) {f : Addr} {fd : FuncData} (F : FunD K "drop" "Store.drop" (defArgs (mth 19 3)) (defBody (mth 19 3)) (defScope (mth 19 3)) [] [] f fd) (hm : Meth K Cl "drop" f) : MDf P w K mg base 4 Cl "drop" 4 (sStDrop Cl) := by
  refine md_of F hm Z.c sc_sdrop rfl (fun _ _ _ _ _ _ us hl => match us, hl with | [_, _, _, _], _ => rfl) fun A ds M r hr hl hs => ?_
  obtain ⟨i, k, x, n, is, dc, d, key, m, h, hg, hn9, hmn, h0, hdl, rfl, rfl⟩ := hs
  have hA : A.units + 1 < cLine := Nat.lt_of_le_of_lt (by omega) hr.units
  have r1 : Room 1 A := hr.mono (by decide)
  rw [← putD_dc]
  refine exs_cons (sd_expr (ed_meth UR r1 (ed_var 0) (ad_cons (ed_var 1) ad_nil) h.own rfl ⟨i, k, n, is, h.own, h.lt, rfl, rfl⟩)) ?_
  refine exs_cons (sd_expr (ed_meth UB (hr.mono (by decide)) (ed_var 0) (ad_cons (ed_var 3) ad_nil) h.own rfl ⟨i, n, is, m, h.own, hn9, rfl, hmn, h0, rfl⟩)) ?_
  refine ⟨.nx _ _, .is rfl, sds_one (sd_dputK (key := .inr key) hA (ed_call UD hr (ad_cons (ed_meth US r1 (ed_var 0) (ad_cons (ed_var 1) (ad_cons (ed_var 2) ad_nil)) h.own rfl ⟨i, k, x, n, is, dc, d, key, h, rfl, rfl⟩) (ad_cons (ed_var 3) ad_nil)) ⟨(getS n d key).1, _, (getS n d key).2, m, rfl, lvL, Nat.le_trans hg.few (by decide), hg.rows.len (by rw [hg.len, hmn]), by rw [hg.len, hmn], by rw [hg.len]; omega, rfl⟩)
    (ed_ixL (ed_fld Z.c Z.ns (ed_var 0) h.own (fld_shelves n is)) (ed_var 1) (is_at h.hx)) (ed_var 2) h.dict ?_)⟩
  unfold dcD; rw [List.length_map]; omega
theorem sc_let : FnScope ["self", "keeper", "key", "mark", "rows"] ["self", "keeper", "key"] (defScope (mth 19 4)) := ⟨rfl, rfl, rfl, by decide +kernel, rfl, by decide +kernel, by decide +kernel⟩
theorem md_let (G : Names K mg) {Cl : Addr} (Z : StC K mg Cl) (UR : MDf P w K mg base 1 Cl "_refuse_no_keeper" 2 (sNoKeeper Cl)) (US : MDf P w K mg base 1 Cl "_shelf" 3 (sShelfOf Cl)) {f : Addr} {fd : FuncData} (F : FunD K "letter" "Store.letter" (defArgs (mth 19 4)) (defBody (mth 19 4)) (defScope (mth 19 4)) [] [] f fd) (hm : Meth K Cl "letter" f) : MDf P w K mg base 2 Cl "letter" 3 (sLetter Cl) := by
  refine md_of F hm Z.c sc_let rfl (fun _ _ _ _ _ _ us hl => match us, hl with | [_, _, _], _ => rfl) fun A ds M r hr hl hs => ?_
  obtain ⟨i, k, x, n, is, dc, d, key, h, rfl, rfl⟩ := hs
  have nd := sc_let.nd
  refine exs_cons (sd_expr (ed_meth UR hr (ed_var 0) (ad_cons (ed_var 1) ad_nil) h.own rfl ⟨i, k, n, is, h.own, h.lt, rfl, rfl⟩)) ?_
  refine exs_cons (sd_asg (d := .tup [tupI (getS n d key).1, .lst (rowsD (getS n d key).2)]) (ed_meth US hr (ed_var 0) (ad_cons (ed_var 1) (ad_cons (ed_var 2) ad_nil)) h.own rfl ⟨i, k, x, n, is, dc, d, key, h, rfl, rfl⟩) (gd_tup (gsd_cons (gd_name 3 nd) (gsd_cons (gd_name 4 nd) gsd_nil)) rfl)) ?_
  exact ⟨_, .is rfl, sds_one (sd_ret (ed_tup (ad_cons (ed_var 2) (ad_cons (ed_var 3) (ad_cons (ed_tupleL (ed_var 4) G.n_tuple) ad_nil)))))⟩
theorem sc_take : FnScope ["self", "keeper", "letter", "key", "mark", "rows"] ["self", "keeper", "letter"] (defScope (mth 19 5)) := ⟨rfl, rfl, rfl, by decide +kernel, rfl, by decide +kernel, by decide +kernel⟩
theorem md_take (G : Names K mg) {Cl : Addr} (Z : StC K mg Cl) (UR : MDf P w K mg base 1 Cl "_refuse_no_keeper" 2 (sNoKeeper Cl)) (US : MDf P w K mg base 1 Cl "_shelf" 3 (sShelfOf Cl)) (UM : FD P w K mg base 3 "met" 2 sMet) {f : Addr} {fd : FuncData} (F : FunD K "take" "Store.take" (defArgs (mth 19 5)) (defBody (mth 19 5)) (defScope (mth 19 5)) [] [] f fd) (hm : Meth K Cl "take" f) : MDf P w K mg base 4 Cl "take" 3 (sTake Cl) := by
  refine md_of F hm Z.c sc_take rfl (fun _ _ _ _ _ _ us hl => match us, hl with | [_, _, _], _ => rfl) fun A ds M r hr hl hs => ?_
  obtain ⟨i, k, x, n, is, dc, d, key, s, h, hg, hs, hn9, hnd, hl1, hl2, hdl, rfl, rfl⟩ := hs
  have nd := sc_take.nd
  have hA : A.units + 1 < cLine := Nat.lt_of_le_of_lt (by omega) hr.units
  have r1 : Room 1 A := hr.mono (by decide)
  rw [← putD_dc]
  refine exs_cons (sd_expr (ed_meth UR r1 (ed_var 0) (ad_cons (ed_var 1) ad_nil) h.own rfl ⟨i, k, n, is, h.own, h.lt, rfl, rfl⟩)) ?_
  refine exs_cons (sd_asg (d := letD key s) (ed_var 2) (gd_tup (gsd_cons (gd_name 3 nd) (gsd_cons (gd_name 4 nd) (gsd_cons (gd_name 5 nd) gsd_nil))) rfl)) ?_
  refine ⟨.nx _ _, .is rfl, sds_one (sd_dputK (key := .inr key) hA (ed_call UM hr (ad_cons (ed_meth US r1 (ed_var 0) (ad_cons (ed_var 1) (ad_cons (ed_var 3) ad_nil)) h.own rfl ⟨i, k, x, n, is, dc, d, key, h, rfl, rfl⟩) (ad_cons (ed_tup (ad_cons (ed_var 4) (ad_cons (ed_listT (ed_var 5) G.n_list) ad_nil))) ad_nil)) ⟨(getS n d key).1, s.1, _, _, (getS n d key).2, s.2, rfl, lvL, lvL, hg.rows, hs.rows, by rw [hg.len, hs.len], by rw [hg.len]; omega, hnd, hl1, hl2, .inl rfl⟩)
    (ed_ixL (ed_fld Z.c Z.ns (ed_var 0) h.own (fld_shelves n is)) (ed_var 1) (is_at h.hx)) (ed_var 3) h.dict ?_)⟩
  unfold dcD; rw [List.length_map]; omega
theorem sc_skeysA : FnScope ["self", "keeper", "key", "_", "rows"] ["self", "keeper"] (defScope (mth 19 6)) := ⟨rfl, rfl, rfl, by decide +kernel, rfl, by decide +kernel, by decide +kernel⟩
theorem md_keysA (G : Names K mg) {Cl : Addr} (Z : StC K mg Cl) (UR : MDf P w K mg base 1 Cl "_refuse_no_keeper" 2 (sNoKeeper Cl)) {f : Addr} {fd : FuncData} (F : FunD K "keys" "Store.keys" (defArgs (mth 19 6)) (defBody (mth 19 6)) (defScope (mth 19 6)) [] [] f fd) (hm : Meth K Cl "keys" f) : MDf P w K mg base 2 Cl "keys" 2 (sKeysA Cl) := by
  refine md_of F hm Z.c sc_skeysA rfl (fun _ _ _ _ _ _ us hl => match us, hl with | [_, _], _ => rfl) fun A ds M r hr hl hs => ?_
  obtain ⟨i, k, x, n, is, dc, d, h, hdl, rfl, rfl⟩ := hs
  have nd := sc_skeysA.nd
  have hxi : x ≠ i := fun e => h.st.ne (e ▸ List.mem_of_getElem? h.hx)
  have own : ∀ o0, (M.set x (.fz (dcD d) o0))[i]? = some (.ins Cl (fldsD n is)) := fun o0 => by rw [List.getElem?_set_ne hxi]; exact h.own
  have hxm : x < M.length := (List.getElem?_eq_some_iff.mp h.dict).1
  have lk : ∀ o0, (M.set x (.fz (dcD d) o0))[x]? = some (.fz (dcD d) o0) := fun o0 => by rw [List.getElem?_set_self hxm]
  have e : ((d.filter fun p => !p.2.2.isEmpty).map fun p => D.v (.str p.1)) = ((d.filter fun p => !p.2.2.isEmpty).map (·.1)).map fun x => D.v (.str x) := by rw [List.map_map]; rfl
  refine ⟨_, .is rfl, sds_cons (sd_expr (ed_meth UR hr (ed_var 0) (ad_cons (ed_var 1) ad_nil) h.own rfl ⟨i, k, n, is, h.own, h.lt, rfl, rfl⟩)) (sds_one (sd_ret (ed_sortSA (ED.is (ed_lock h.dict (fun o0 => ed_lc (own := [("key", 2), ("_", 3), ("rows", 4)]) d (fun p => pairK (.inr p.1, shD p.2)) (fun p => !p.2.2.isEmpty) (fun p => .v (.str p.1)) rfl nd (bOk (by decide +kernel))
    ((id_items (ed_ixL (ed_fld Z.c Z.ns (ed_var 0) (own o0) (fld_shelves n is)) (ed_var 1) (is_at h.hx)) (lk o0)).is ?_) (lk o0) ?_ (fun p hp => ⟨_, gd_tup (ds := [.v (.str p.1), .tup [tupI p.2.1, .lst (rowsD p.2.2)]]) (gsd_cons (gd_name 2 nd) (gsd_cons (gd_tup (gsd_cons (gd_name 3 nd) (gsd_cons (gd_name 4 nd) gsd_nil)) rfl) gsd_nil)) rfl, tsd_one (TD.is (td_truth (ed_var 4) lvL) ?_), fun _ => ed_var 2⟩)) h.dict) (congrArg D.lst e)) lvL (by rw [List.length_map]; have := List.length_filter_le (fun p : Str × Shelf => !p.2.2.isEmpty) d; omega) G.n_sorted)))⟩
  · unfold dcD; rw [List.map_map]; rfl
  · omega
  · cases p.2.2 <;> rfl
theorem sc_init : FnScope ["self", "many", "_"] ["self", "many"] (defScope (mth 19 0)) := ⟨rfl, rfl, rfl, by decide +kernel, rfl, by decide +kernel, by decide +kernel⟩
theorem fn_init (G : Names K mg) {Cl : Addr} (Z : StC K mg Cl) (UB : FD P w K mg base 1 "blank" 1 sBlank0) {f : Addr} {fd : FuncData} (F : FunD K "__init__" "Store.__init__" (defArgs (mth 19 0)) (defBody (mth 19 0)) (defScope (mth 19 0)) [] [] f fd) : FnOk P w K mg base (L2.CX P w) 2 f fd ["self", "many"] (spD K 2 (sInit Cl)) := by
  refine fnok_ofJ F sc_init rfl fun A ds M r hr hl hs => ?_
  obtain ⟨M0, n, rfl, h1, h9, rfl, rfl⟩ := hs
  have nd := sc_init.nd
  have hown : (M0 ++ [MO.ins Cl []])[M0.length]? = some (.ins Cl []) := by simp
  have hown2 : ((M0 ++ [MO.ins Cl []]).set M0.length (.ins Cl (putFD "_blank" (tupI (blankI n)) [])) ++ List.replicate n (.dK []))[M0.length]? = some (.ins Cl (putFD "_blank" (tupI (blankI n)) [])) := by simp
  have hlen : ((M0 ++ [MO.ins Cl []]).set M0.length (.ins Cl (putFD "_blank" (tupI (blankI n)) []))).length = M0.length + 1 := by simp
  rw [← init_mem n]
  refine exs_cons (sd_fld Z.c Z.nb (ed_call UB (hr.mono (by decide)) (ad_cons (ed_var 1) ad_nil) ⟨n, rfl, h1, h9, rfl⟩) (ed_var 0) hown (by decide)) ?_
  refine ⟨.nx _ _, .is rfl, sds_one (sd_fld Z.c Z.ns (ed_lcGn (n := n) (own := [("_", 2)]) (by rw [rngD_length, Int.toNat_natCast]) rfl nd (bOk (by decide +kernel)) ((id_range1 (n := (n : Int)) (ad_cons (ed_var 1) ad_nil) (by omega) (by omega) G.n_range)) (fun j => [.res (M0.length + 1 + j)]) (fun j => (M0 ++ [MO.ins Cl []]).set M0.length (.ins Cl (putFD "_blank" (tupI (blankI n)) [])) ++ List.replicate j (.dK [])) (by simp) (fun _ _ => trivial) (by omega) (fun j d hd => ?_)) (ed_var 0) hown2 (by show 1 < 900; omega))⟩
  refine ⟨_, gd_name 2 nd, .inr ⟨.res (M0.length + 1 + j), _, tsd_nil, ?_, rfl⟩⟩
  have hl2 : ((M0 ++ [MO.ins Cl []]).set M0.length (.ins Cl (putFD "_blank" (tupI (blankI n)) [])) ++ List.replicate j (MO.dK [])).length = M0.length + 1 + j := by rw [List.length_append, hlen, List.length_replicate]
  rw [List.replicate_succ', ← List.append_assoc, ← hl2]
  exact ed_dnewK
theorem sc_cell : FnScope ["_law_script", "_law_k"] ["_law_script", "_law_k"] (defScope (top 22)) := ⟨rfl, rfl, rfl, by decide +kernel, rfl, by decide +kernel, by decide +kernel⟩
theorem fd_cell (G : Names K mg) {f : Addr} {fd : FuncData} (F : FnP K "_law_cell_at" 22 f fd) (hm : mg "_law_cell_at" = some (.ref f)) : FD P w K mg base 1 "_law_cell_at" 2 sCell := by
  refine fd_of F hm sc_cell rfl (fun _ _ _ _ _ _ us hl => match us, hl with | [_, _], _ => rfl) fun A ds M r hr hl hs => ?_
  obtain ⟨xs, k, rfl, hk, rfl⟩ := hs
  obtain ⟨i, rfl⟩ := Int.eq_ofNat_of_zero_le hk
  have hlen : (intsD xs).length = xs.length := by simp [intsD]
  by_cases h : i < xs.length
  · refine ⟨.rt (dInt (cellI xs i)) M, rfl, ?_⟩
    refine sds_stop (sd_ifT (td_lt (ed_var 1) (ed_len_lst (ed_var 0) G.n_len)) (decide_eq_true ?_) (sds_one (sd_ret (ed_ixL (ed_var 0) (ed_var 1) (atI_ints ?_)))))
    · rw [hlen]; omega
    · unfold cellI; simp [h]
  · refine ⟨.rt (dInt (cellI xs i)) M, rfl, ?_⟩
    refine sds_cons (sd_ifN (td_lt (ed_var 1) (ed_len_lst (ed_var 0) G.n_len)) (decide_eq_false ?_)) (sds_one (sd_ret (ed_int.is ?_)))
    · rw [hlen]; omega
    · have : cellI xs i = 0 := by unfold cellI; simp [h]
      rw [this]
end
end K08
set_option maxHeartbeats 2000000
namespace K08
open PySem PySem.Spec PyProof.Rows L2 DL KS
section
variable {P : Program} {w : World} {K : PySem.W.Frag} {mg : Str → Option Value} {base : Heap}
theorem sc_v8 : FnScope ["_law_cell", "_law_few"] ["_law_cell", "_law_few"] (defScope (top 23)) := ⟨rfl, rfl, rfl, by decide +kernel, rfl, by decide +kernel, by decide +kernel⟩
theorem fd_v8 {f : Addr} {fd : FuncData} (F : FnP K "_law_value" 23 f fd) (hm : mg "_law_value" = some (.ref f)) : FD P w K mg base 1 "_law_value" 2 sVal8 := by
  refine fd_of F hm sc_v8 rfl (fun _ _ _ _ _ _ us hl => match us, hl with | [_, _], _ => rfl) fun A ds M r hr hl hs => ?_
  obtain ⟨c, few, rfl, rfl⟩ := hs
  refine ⟨.rt (dInt (val8 few c)) M, rfl, ?_⟩
  cases few with
  | true => exact sds_stop (sd_ifT (td_val (ed_var 1)) rfl (sds_one (sd_ret (ed_mod (ed_fdiv (ed_var 0) ed_int (cdiv (by decide) (by decide))) ed_int (by decide)))))
  | false => exact sds_cons (sd_ifN (td_val (ed_var 1)) rfl) (sds_one (sd_ret (ED.is (ed_sub (ed_mod (ed_mul (ed_var 0) ed_int (.inr ⟨by decide, by decide⟩)) (ed_sub (ed_mul ed_int (ed_pow ed_int ed_int ⟨by decide, by decide, by decide⟩) (.inl ⟨by decide, by decide⟩)) ed_int) (by decide)) (ed_sub (ed_pow ed_int ed_int ⟨by decide, by decide, by decide⟩) ed_int)) rfl)))
theorem sc_b8 : FnScope ["_law_one", "_law_other", "_law_found"] ["_law_one", "_law_other"] (defScope (top 24)) := ⟨rfl, rfl, rfl, by decide +kernel, rfl, by decide +kernel, by decide +kernel⟩
theorem fd_b8 (G : Names K mg) {f : Addr} {fd : FuncData} (F : FnP K "_law_both" 24 f fd) (hm : mg "_law_both" = some (.ref f)) : FD P w K mg base 1 "_law_both" 2 sBoth8 := by
  refine fd_of F hm sc_b8 rfl (fun _ _ _ _ _ _ us hl => match us, hl with | [_, _], _ => rfl) fun A ds M r hr hl hs => ?_
  obtain ⟨i, j, L, J, rfl, hi, hj, hl1, hl2, rfl⟩ := hs
  have nd := sc_b8.nd
  have hjl := (List.getElem?_eq_some_iff.mp hj).1
  have hM : (M ++ [MO.dK (keysK L)])[M.length]? = some (.dK (keysK L)) := by simp
  have hMj : (M ++ [MO.dK (keysK L)])[j]? = some (.dK (keysK J)) := by rw [List.getElem?_append_left hjl]; exact hj
  have em : (M ++ [MO.dK (keysK L)]).set M.length (.dK (mergeD (keysK L) (keysK J))) = M ++ [.dK (keysK (unionN L J))] := by rw [keysK_merge]; simp
  refine ⟨.rt (.res M.length) (M ++ [.dK (keysK (unionN L J))]), rfl, ?_⟩
  refine sds_cons (sd_set 2 (ed_copyD (ed_var 0) hi G.n_dict) nd) ?_
  rw [← em]
  exact sds_cons (sd_expr (ed_updD (ed_var 2) (ed_var 1) hM hM (.inl hMj) (by omega) (by rw [keysK_len, keysK_len]; omega))) (sds_one (sd_ret (ed_var 2)))
theorem sc_a8 : FnScope ["_law_store", "_law_keeper", "_law_key"] ["_law_store", "_law_keeper", "_law_key"] (defScope (top 29)) := ⟨rfl, rfl, rfl, by decide +kernel, rfl, by decide +kernel, by decide +kernel⟩
theorem fd_a8 {Cl : Addr} (ULook : MDf P w K mg base 2 Cl "look" 3 (sLook Cl)) (UKeys : MDf P w K mg base 2 Cl "keys" 2 (sKeysA Cl)) (ULet : MDf P w K mg base 2 Cl "letter" 3 (sLetter Cl)) {f : Addr} {fd : FuncData} (F : FnP K "_law_asked" 29 f fd) (hm : mg "_law_asked" = some (.ref f)) : FD P w K mg base 3 "_law_asked" 3 (sAsked8 Cl) := by
  refine fd_of F hm sc_a8 rfl (fun _ _ _ _ _ _ us hl => match us, hl with | [_, _, _], _ => rfl) fun A ds M r hr hl hs => ?_
  obtain ⟨i, k, x, n, is, dc, d, key, h, hg, hdl, rfl, rfl⟩ := hs
  refine ⟨.nx [some (.res i), some (dInt (k : Nat)), some (.v (.str key))] M, rfl, ?_⟩
  refine sds_cons (sd_expr (ed_meth ULook hr (ed_var 0) (ad_cons (ed_var 1) (ad_cons (ed_var 2) ad_nil)) h.own rfl ⟨i, k, x, n, is, dc, d, key, h, hg, rfl, .inl rfl⟩)) ?_
  refine sds_cons (sd_expr (ed_meth UKeys hr (ed_var 0) (ad_cons (ed_var 1) ad_nil) h.own rfl ⟨i, k, x, n, is, dc, d, h, hdl, rfl, rfl⟩)) ?_
  exact sds_one (sd_expr (ed_meth ULet hr (ed_var 0) (ad_cons (ed_var 1) (ad_cons (ed_var 2) ad_nil)) h.own rfl ⟨i, k, x, n, is, dc, d, key, h, rfl, rfl⟩))
theorem sc_t8 : FnScope ["_law_store", "_law_keeper", "_law_key", "_law_due_here", "_law_found", "_law_one"] ["_law_store", "_law_keeper", "_law_key", "_law_due_here"] (defScope (top 27)) := ⟨rfl, rfl, rfl, by decide +kernel, rfl, by decide +kernel, by decide +kernel⟩
theorem fd_t8 (G : Names K mg) {Cl : Addr} (ULook : MDf P w K mg base 2 Cl "look" 3 (sLook Cl)) {f : Addr} {fd : FuncData} (F : FnP K "_law_told" 27 f fd) (hm : mg "_law_told" = some (.ref f)) : FD P w K mg base 3 "_law_told" 4 (sTold8 Cl) := by
  refine fd_of F hm sc_t8 rfl (fun _ _ _ _ _ _ us hl => match us, hl with | [_, _, _, _], _ => rfl) fun A ds M r hr hl hs => ?_
  obtain ⟨i, k, x, n, is, dc, d, key, h, hg, hfew, hn9, rfl, rfl⟩ := hs
  have nd := sc_t8.nd
  have hA : A.units + 64 < cLine := hr.units
  have hlen := hg.len
  refine ⟨.rt (.v (.bl true)) M, rfl, ?_⟩
  refine sds_cons (sd_set 4 (ED.is (d' := seenD (getS n d key)) (ed_meth ULook hr (ed_var 0) (ad_cons (ed_var 1) (ad_cons (ed_var 2) ad_nil)) h.own rfl ⟨i, k, x, n, is, dc, d, key, h, hg, rfl, .inl rfl⟩) rfl) nd) ?_
  generalize getS n d key = s at hfew hlen
  have e0 : atI [D.lst (intsD (valsI s.2)), tupI s.1] 0 = some (.lst (intsD (valsI s.2))) := rfl
  have e1 : atI [D.lst (intsD (valsI s.2)), tupI s.1] 1 = some (tupI s.1) := rfl
  have hvl := valsI_len s.2
  refine sds_cons (sd_ifN (td_w (wd_or (td_not (td_val (ed_isinst "tuple" true (ad_cons (ed_var 4) (ad_cons (ed_bltnT G.n_tuple boot_tuple) ad_nil)) G.n_isinstance))) fun _ => wd_or (td_ne (ed_len_tup (ed_var 4) G.n_len) ed_int) fun _ => wd_or1 (td_not (td_val (ed_isinstV true (ad_cons (ed_ixT (ed_var 4) ed_int e0) (ad_cons (ed_bltnT G.n_list boot_list) ad_nil)) lvL G.n_isinstance))))) (by simp)) ?_
  refine sds_cons (sd_ifN (td_w (wd_or (td_not (td_val (ed_isinst "tuple" true (ad_cons (ed_ixT (ed_var 4) ed_int e1) (ad_cons (ed_bltnT G.n_tuple boot_tuple) ad_nil)) G.n_isinstance))) fun _ => wd_or (td_neD hA (ed_ixT (ed_var 4) ed_int e0) (ed_ixT (ed_var 3) ed_int e0) (pl_ints (n := 0) _).ok (pl_ints (n := 0) _).ok) fun _ => wd_or1 (td_neD hA (ed_ixT (ed_var 4) ed_int e1) (ed_ixT (ed_var 3) ed_int e1) (tupI_ok _) (tupI_ok _)))) (by rw [(pl_ints (n := 0) _).refl, tupI_eqv]; simp)) ?_
  refine sds_one (sd_ret (ED.is (ed_eqD hA (ed_lc (own := [("_law_one", 5)]) (valsI s.2 ++ s.1) dInt (fun _ => false) dInt rfl nd (bOk (by decide +kernel)) ((id_V (ed_catL (ed_ixT (ed_var 4) ed_int e0) (ed_listT (ed_ixT (ed_var 4) ed_int e1) G.n_list) lvL lvL (by rw [intsD_len, intsD_len]; omega)) lvL).is (by unfold intsD; rw [List.map_append])) lvL (by rw [List.length_append]; omega) (fun v hv => ⟨_, gd_name 5 nd, tsd_one (TD.is (td_w (wd_or (td_not (td_val (ed_isinst "int" true (ad_cons (ed_var 5) (ad_cons (ed_bltnT G.n_int boot_int) ad_nil)) G.n_isinstance))) fun _ => wd_or1 (td_val (ed_isinst "int" false (ad_cons (ed_var 5) (ad_cons (ed_bltnT G.n_bool boot_bool) ad_nil)) G.n_isinstance)))) rfl), fun h => nomatch h⟩)) (ed_lst ad_nil) (pl_ints (n := 0) ((valsI s.2 ++ s.1).filter fun _ => false)).ok nil_ok) ?_))
  rw [show ((valsI s.2 ++ s.1).filter fun _ => false) = [] from List.filter_eq_nil_iff.mpr (by simp)]
  rfl
theorem sc_d8 : FnScope ["_law_changes", "_law_known", "_law_many", "_law_gone", "_law_one", "_law_rows", "_law_mark", "_law_keeper", "_law_row"] ["_law_changes", "_law_known", "_law_many"] (defScope (top 26)) := ⟨rfl, rfl, rfl, by decide +kernel, rfl, by decide +kernel, by decide +kernel⟩
theorem fd_d8 (G : Names K mg) {f : Addr} {fd : FuncData} (F : FnP K "_law_due" 26 f fd) (hm : mg "_law_due" = some (.ref f)) : FD P w K mg base 1 "_law_due" 3 sDue8 := by
  refine fd_ofJ F hm sc_d8 rfl (fun _ _ _ _ _ _ us hl => match us, hl with | [_, _, _], _ => rfl) fun A ds M r hr hl hs => ?_
  obtain ⟨a, i, n, cs, W, rfl, ha, hi, hn9, hWl, hcs, hW, rfl⟩ := hs
  have nd := sc_d8.nd
  have hA1 : A.units + 1 < cLine := Nat.lt_of_le_of_lt (by omega) hr.units
  have hal := (List.getElem?_eq_some_iff.mp ha).1
  have hil := (List.getElem?_eq_some_iff.mp hi).1
  have hai : a ≠ i := fun e => by
    subst e
    rw [ha] at hi
    cases hi
  obtain ⟨B, hB⟩ : ∃ B : List ACh, B = cs.map (·.1) := ⟨_, rfl⟩
  rw [← hB]
  have hat : ∀ j, j < cs.length → ∃ p, cs[j]? = some p ∧ B[j]? = some p.1 ∧ atI (cs.map chR) ((j : Nat) : Int) = some (chR p) ∧ p ∈ cs := fun j hj => by
    refine ⟨cs[j], List.getElem?_eq_getElem hj, ?_, atI_nat ?_, List.getElem_mem hj⟩
    · rw [hB, List.getElem?_map, List.getElem?_eq_getElem hj]; rfl
    · rw [List.getElem?_map, List.getElem?_eq_getElem hj]; rfl
  have hsl : ∀ j, (seenA B j).length ≤ 100 := fun j => by
    unfold seenA
    rw [hB, List.getElem?_map]
    cases e : cs[j]? with
    | none => simp
    | some p => exact (hcs p (List.mem_of_getElem? e)).2.1
  refine exs_cons (sd_set 3 ed_dnewK nd) ?_
  have hks : (keysK W).map (fun kv => keyD kv.1) = W.map fun (i : Nat) => dInt (i : Int) := keysK_ks W
  have hgl := goneT_len (A := B) (W := W) hsl
  have hMi : ∀ x, (M ++ [x])[i]? = some (.dK (keysK W)) := fun x => by rw [List.getElem?_append_left hil]; exact hi
  have hset : ∀ x o0, (M ++ [x]).set i (.fz (keysK W) o0) = M.set i (.fz (keysK W) o0) ++ [x] := fun x o0 => List.set_append_left _ _ hil
  have hNl : ∀ o0, (M.set i (.fz (keysK W) o0)).length = M.length := fun o0 => List.length_set
  have hNa : ∀ o0 x, (M.set i (.fz (keysK W) o0) ++ [x])[a]? = some (.lst (cs.map chR)) := fun o0 x => by
    rw [List.getElem?_append_left (by rw [hNl]; exact hal), List.getElem?_set_ne (fun z => hai z.symm)]; exact ha
  have hNi : ∀ o0 x, (M.set i (.fz (keysK W) o0) ++ [x])[i]? = some (.fz (keysK W) o0) := fun o0 x => by
    rw [List.getElem?_append_left (by rw [hNl]; exact hil), List.getElem?_set_self hil]
  have hNg : ∀ o0 x, (M.set i (.fz (keysK W) o0) ++ [x])[M.length]? = some x := fun o0 x => by
    rw [List.getElem?_append_right (by rw [hNl]; exact Nat.le_refl _), hNl, Nat.sub_self]; rfl
  refine exs_cons (S1 := [some (.res a), some (.res i), some (dInt (n : Nat)), some (.res M.length), none, none, none, none, none]) (M1 := M ++ [MO.dK (keysK (goneL B W))]) ?_ ?_
  · refine sd_lock (n := i) (kvs := keysK W) (hMi _) (fun o0 => ?_) (hMi _)
    rw [hset, hset]
    have e0 : goneL B W = goneT B W W.length := by unfold goneL goneT; rw [List.take_length]; rfl
    have el : W.length = (W.map fun (i : Nat) => dInt (i : Int)).length := by rw [List.length_map]
    rw [e0, el]
    refine sd_forS (items := W.map fun (i : Nat) => dInt (i : Int)) ((id_keysK (kvs := keysK W) (o0 := o0) (ed_var 1) (hNi o0 _)).is hks) rfl (fun _ => [some (.res a), some (.res i), some (dInt (n : Nat)), some (.res M.length), none, none, none, none, none]) (fun j => M.set i (.fz (keysK W) o0) ++ [MO.dK (keysK (goneT B W j))]) rfl rfl (fun j _ => hNi o0 _) (fun j d hd => ?_)
    rw [List.getElem?_map] at hd
    obtain ⟨c, hc, rfl⟩ : ∃ c, W[j]? = some c ∧ d = dInt ((c : Nat) : Int) := by
      cases e : W[j]? with
      | none => rw [e] at hd; cases hd
      | some c => rw [e] at hd; exact ⟨c, rfl, by simpa using hd.symm⟩
    have hj : j < W.length := (List.getElem?_eq_some_iff.mp hc).1
    obtain ⟨p, p1, p2, p3, p4⟩ := hat c (hW c (List.mem_of_getElem? hc))
    obtain ⟨q1, q2, q3⟩ := hcs p p4
    have es : seenA B c = p.1.seen := by unfold seenA; rw [p2]; rfl
    have hpl := (List.getElem?_eq_some_iff.mp q1).1
    have hNp : (M.set i (.fz (keysK W) o0) ++ [MO.dK (keysK (goneT B W j))])[p.2]? = some (.dK (keysK p.1.seen)) ∨ ∃ o0', (M.set i (.fz (keysK W) o0) ++ [MO.dK (keysK (goneT B W j))])[p.2]? = some (.fz (keysK p.1.seen) o0') := by
      by_cases e : p.2 = i
      · refine .inr ⟨o0, ?_⟩
        rw [e, hNi]
        rw [e, hi] at q1
        have e3 : keysK W = keysK p.1.seen := MO.dK.inj (Option.some.inj q1)
        rw [e3]
      · refine .inl ?_
        rw [List.getElem?_append_left (by rw [hNl]; exact hpl), List.getElem?_set_ne (fun z => e z.symm)]
        exact q1
    have em : (M.set i (.fz (keysK W) o0) ++ [MO.dK (keysK (goneT B W j))]).set M.length (.dK (mergeD (keysK (goneT B W j)) (keysK p.1.seen))) = M.set i (.fz (keysK W) o0) ++ [MO.dK (keysK (goneT B W (j + 1)))] := by
      rw [keysK_merge, goneT_succ hc, es]
      have := set_app (M.set i (.fz (keysK W) o0)) [MO.dK (keysK (goneT B W j))] 0 (.dK (keysK (unionN (goneT B W j) p.1.seen)))
      rw [hNl] at this
      exact this
    have hg1 := hgl j
    refine ⟨_, [4], [some (.res a), some (.res i), some (dInt (n : Nat)), some (.res M.length), some (dInt (c : Nat)), none, none, none, none], gd_name 4 nd, .inl ?_, by repeat (first | exact trivial | refine ⟨.inl rfl, ?_⟩ | refine ⟨.inr rfl, ?_⟩)⟩
    show SDs _ _ _ _ (.nx _ (M.set i (.fz (keysK W) o0) ++ [MO.dK (keysK (goneT B W (j + 1)))]))
    rw [← em]
    exact sds_one (sd_expr (ed_updD (ed_var 3) (ed_ixT (ed_ixR (ed_var 0) (ed_var 4) (hNa o0 _) p3) ed_int (show atI [dInt p.1.kp, dInt p.1.num, dInt p.1.val, .res p.2] 3 = some (.res p.2) from rfl)) (hNg o0 _) (hNg o0 _) hNp (by omega) (by rw [keysK_len, keysK_len]; omega)))
  have hgone : ∀ o0, (M.set i (.fz (keysK W) o0) ++ [MO.dK (keysK (goneL B W))])[M.length]? = some (.dK (keysK (goneL B W))) := fun o0 => hNg o0 _
  refine exs_cons (sd_set 5 (ed_sortV (L := rows8 B W) (ed_lock (n := i) (kvs := keysK W) (hMi _) (fun o0 => by
    rw [hset]
    exact ED.is (ed_lc (own := [("_law_one", 4)]) W (fun (i : Nat) => dInt (i : Int)) (dueP B (goneL B W)) (fun j => tupI (rowX B j)) rfl nd (bOk (by decide +kernel)) ((id_keysK (kvs := keysK W) (o0 := o0) (ed_var 1) (hNi o0 _)).is hks) (hNi o0 _) (by omega) (fun c hc => by
      obtain ⟨p, p1, p2, p3, p4⟩ := hat c (hW c hc)
      have ek : kpA B c = p.1.kp := by unfold kpA; rw [p2]; rfl
      have er : rowX B c = [p.1.kp, p.1.num, p.1.val] := by unfold rowX; rw [p2]; rfl
      exact ⟨_, gd_name 4 nd, tsd_one (TD.is (td_w (wd_and (td_ninK (key := .inl ((c : Nat) : Int)) hA1 (ed_var 4) (ed_var 3) (hgone o0)) fun _ => wd_and1 (td_ge (ed_ixT (ed_ixR (ed_var 0) (ed_var 4) (hNa o0 _) p3) ed_int (show atI [dInt p.1.kp, dInt p.1.num, dInt p.1.val, .res p.2] 0 = some (dInt p.1.kp) from rfl)) ed_int))) (by unfold dueP; rw [keysK_some, ek])), fun _ => ED.is (ed_sliceT (ed_ixR (ed_var 0) (ed_var 4) (hNa o0 _) p3) .no (.is ed_int)) (by rw [er]; rfl)⟩)) (by unfold rowsD rows8; rw [List.map_map]; rfl)) (hMi _)) lvL (fun r hr => by
      unfold rows8 at hr
      obtain ⟨j, hj, rfl⟩ := List.mem_map.mp hr
      obtain ⟨p, p1, p2, p3, p4⟩ := hat j (hW j (List.mem_filter.mp hj).1)
      unfold rowX
      rw [p2]
      exact List.cons_ne_nil _ _) G.n_sorted) nd) ?_
  have e00 : (List.range n).map (fun _ => dInt 0) = intsD (marks8 B n (W.take 0)) := by
    unfold intsD marks8
    rw [List.map_map]
    refine List.map_congr_left fun k _ => ?_
    simp
  refine exs_cons (S1 := [some (.res a), some (.res i), some (dInt (n : Nat)), some (.res M.length), none, some (.lst (rowsD (sortI (rows8 B W)))), some (.res (M.length + 1)), none, none]) (M1 := M ++ [MO.dK (keysK (goneL B W))] ++ [MO.lst (intsD (marks8 B n (W.take 0)))]) ?_ ?_
  · have el : (M ++ [MO.dK (keysK (goneL B W))]).length = M.length + 1 := by simp
    rw [← el, ← e00]
    exact sd_setLcR (own := [("_law_keeper", 7)]) 6 (List.range n) (fun (k : Nat) => dInt (k : Int)) (fun _ => dInt 0) rfl nd (bOk (by decide +kernel)) (id_range1 (n := (n : Int)) (ad_cons (ed_var 2) ad_nil) (by omega) (by omega) G.n_range) trivial (by rw [List.length_range]; omega) (fun k hk => ⟨_, gd_name 7 nd, ed_int⟩)
  have hMi2 : ∀ x, (M ++ [MO.dK (keysK (goneL B W))] ++ [x])[i]? = some (.dK (keysK W)) := fun x => by rw [List.getElem?_append_left (by simp; omega)]; exact hMi _
  have hset2 : ∀ x o0, (M ++ [MO.dK (keysK (goneL B W))] ++ [x]).set i (.fz (keysK W) o0) = M.set i (.fz (keysK W) o0) ++ [MO.dK (keysK (goneL B W))] ++ [x] := fun x o0 => by
    rw [List.set_append_left _ _ (by simp; omega), hset]
  have hNl2 : ∀ o0, (M.set i (.fz (keysK W) o0) ++ [MO.dK (keysK (goneL B W))]).length = M.length + 1 := fun o0 => by rw [List.length_append, hNl]; rfl
  have hNa2 : ∀ o0 x, (M.set i (.fz (keysK W) o0) ++ [MO.dK (keysK (goneL B W))] ++ [x])[a]? = some (.lst (cs.map chR)) := fun o0 x => by
    rw [List.getElem?_append_left (by rw [hNl2]; omega)]; exact hNa o0 _
  have hNi2 : ∀ o0 x, (M.set i (.fz (keysK W) o0) ++ [MO.dK (keysK (goneL B W))] ++ [x])[i]? = some (.fz (keysK W) o0) := fun o0 x => by
    rw [List.getElem?_append_left (by rw [hNl2]; omega)]; exact hNi o0 _
  have hNm : ∀ o0 x, (M.set i (.fz (keysK W) o0) ++ [MO.dK (keysK (goneL B W))] ++ [x])[M.length + 1]? = some x := fun o0 x => by
    rw [List.getElem?_append_right (by rw [hNl2]; exact Nat.le_refl _), hNl2, Nat.sub_self]; rfl
  have hNs : ∀ o0 x y, (M.set i (.fz (keysK W) o0) ++ [MO.dK (keysK (goneL B W))] ++ [x]).set (M.length + 1) y = M.set i (.fz (keysK W) o0) ++ [MO.dK (keysK (goneL B W))] ++ [y] := fun o0 x y => by
    have := set_app (M.set i (.fz (keysK W) o0) ++ [MO.dK (keysK (goneL B W))]) [x] 0 y
    rw [hNl2] at this
    exact this
  refine exs_cons (S1 := [some (.res a), some (.res i), some (dInt (n : Nat)), some (.res M.length), none, some (.lst (rowsD (sortI (rows8 B W)))), some (.res (M.length + 1)), none, none]) (M1 := M ++ [MO.dK (keysK (goneL B W))] ++ [MO.lst (intsD (marks8 B n W))]) ?_ ?_
  · refine sd_lock (n := i) (kvs := keysK W) (hMi2 _) (fun o0 => ?_) (hMi2 _)
    rw [hset2, hset2]
    have e0 : marks8 B n W = marks8 B n (W.take W.length) := by rw [List.take_length]
    have el : W.length = (W.map fun (i : Nat) => dInt (i : Int)).length := by rw [List.length_map]
    rw [e0, el]
    refine sd_forS (items := W.map fun (i : Nat) => dInt (i : Int)) ((id_keysK (kvs := keysK W) (o0 := o0) (ed_var 1) (hNi2 o0 _)).is hks) rfl (fun _ => [some (.res a), some (.res i), some (dInt (n : Nat)), some (.res M.length), none, some (.lst (rowsD (sortI (rows8 B W)))), some (.res (M.length + 1)), none, none]) (fun j => M.set i (.fz (keysK W) o0) ++ [MO.dK (keysK (goneL B W))] ++ [MO.lst (intsD (marks8 B n (W.take j)))]) rfl rfl (fun j _ => hNi2 o0 _) (fun j d hd => ?_)
    rw [List.getElem?_map] at hd
    obtain ⟨c, hc, rfl⟩ : ∃ c, W[j]? = some c ∧ d = dInt ((c : Nat) : Int) := by
      cases e : W[j]? with
      | none => rw [e] at hd; cases hd
      | some c => rw [e] at hd; exact ⟨c, rfl, by simpa using hd.symm⟩
    obtain ⟨p, p1, p2, p3, p4⟩ := hat c (hW c (List.mem_of_getElem? hc))
    obtain ⟨_, _, q3⟩ := hcs p p4
    have ek : kpA B c = p.1.kp := by unfold kpA; rw [p2]; rfl
    refine ⟨_, [4], [some (.res a), some (.res i), some (dInt (n : Nat)), some (.res M.length), some (dInt (c : Nat)), some (.lst (rowsD (sortI (rows8 B W)))), some (.res (M.length + 1)), none, none], gd_name 4 nd, .inl ?_, by repeat (first | exact trivial | refine ⟨.inl rfl, ?_⟩ | refine ⟨.inr rfl, ?_⟩)⟩
    show SDs _ _ _ _ (.nx _ (M.set i (.fz (keysK W) o0) ++ [MO.dK (keysK (goneL B W))] ++ [MO.lst (intsD (marks8 B n (W.take (j + 1))))]))
    have t0 : atI [dInt p.1.kp, dInt p.1.num, dInt p.1.val, .res p.2] 0 = some (dInt p.1.kp) := rfl
    by_cases h0 : 0 ≤ p.1.kp
    · obtain ⟨kk0, hkk⟩ := Int.eq_ofNat_of_zero_le h0
      rw [hkk] at t0 q3 ek
      have hkn : kk0 < n := by omega
      have hml : (marks8 B n (W.take j)).length = n := by unfold marks8; simp
      have hstep := marks8_step hc ek hkn
      have em : (M.set i (.fz (keysK W) o0) ++ [MO.dK (keysK (goneL B W))] ++ [MO.lst (intsD (marks8 B n (W.take j)))]).set (M.length + 1) (.lst ((intsD (marks8 B n (W.take j))).set kk0 (dInt ((marks8 B n (W.take j)).getD kk0 0 + 1)))) = M.set i (.fz (keysK W) o0) ++ [MO.dK (keysK (goneL B W))] ++ [MO.lst (intsD (marks8 B n (W.take (j + 1))))] := by
        rw [hNs, ← hstep]
        unfold intsD
        rw [List.map_set]
      rw [← em]
      have hat2 : atI (intsD (marks8 B n (W.take j))) ((kk0 : Nat) : Int) = some (dInt ((marks8 B n (W.take j)).getD kk0 0)) := atI_ints (get_getD (by rw [hml]; exact hkn))
      exact sds_one (sd_ifT (td_ge (ed_ixT (ed_ixR (ed_var 0) (ed_var 4) (hNa2 o0 _) p3) ed_int (by show atI [dInt p.1.kp, dInt p.1.num, dInt p.1.val, .res p.2] 0 = some (dInt ((kk0 : Nat) : Int)); rw [hkk]; rfl)) ed_int) (decide_eq_true (by omega)) (sds_one (sd_setIx (j := kk0) (i := ((kk0 : Nat) : Int)) (ed_add (ed_ixR (ed_var 6) (ed_ixT (ed_ixR (ed_var 0) (ed_var 4) (hNa2 o0 _) p3) ed_int (by show atI [dInt p.1.kp, dInt p.1.num, dInt p.1.val, .res p.2] 0 = some (dInt ((kk0 : Nat) : Int)); rw [hkk]; rfl)) (hNm o0 _) hat2) ed_int) (ed_var 6) (ed_ixT (ed_ixR (ed_var 0) (ed_var 4) (hNa2 o0 _) p3) ed_int (by show atI [dInt p.1.kp, dInt p.1.num, dInt p.1.val, .res p.2] 0 = some (dInt ((kk0 : Nat) : Int)); rw [hkk]; rfl)) (hNm o0 _) (by rw [intsD_len, hml]; exact ixN_at hkn))))
    · have hskip := marks8_skip (A := B) (n := n) hc (by rw [ek]; exact h0)
      rw [← hskip]
      exact sds_one (sd_ifN (td_ge (ed_ixT (ed_ixR (ed_var 0) (ed_var 4) (hNa2 o0 _) p3) ed_int t0) ed_int) (decide_eq_false h0))
  have hMm : (M ++ [MO.dK (keysK (goneL B W))] ++ [MO.lst (intsD (marks8 B n W))])[M.length + 1]? = some (.lst (intsD (marks8 B n W))) := by
    have el : (M ++ [MO.dK (keysK (goneL B W))]).length = M.length + 1 := by simp
    rw [List.getElem?_append_right (by rw [el]; exact Nat.le_refl _), el, Nat.sub_self]; rfl
  have hrl : (rows8 B W).length ≤ 100 := by
    unfold rows8
    rw [List.length_map]
    exact Nat.le_trans (List.length_filter_le _ _) hWl
  have hfit : M ++ [MO.dK (keysK (goneL B W))] ++ [MO.lst (intsD (marks8 B n W))] = M ++ ([MO.dK (keysK (goneL B W))] ++ [MO.lst (intsD (marks8 B n W))]) := List.append_assoc _ _ _
  refine ⟨.rt (.tup [.lst (intsD (valsI (sortI (rows8 B W)))), tupI (marks8 B n W)]) (M ++ [MO.dK (keysK (goneL B W))] ++ [MO.lst (intsD (marks8 B n W))]), ?_, ?_⟩
  · rw [hfit]
    exact fit_rt _ (D.fz_under (plD.tup (n := 1) (plD.cons (pl_ints (n := 0) _) (plD.cons (pl_tupI (n := 0) _) plD.nil))).fz)
  refine sds_one (sd_ret (ed_tup (ad_cons (ED.is (d' := .lst (intsD (valsI (sortI (rows8 B W))))) (ed_lcm (own := [("_law_row", 8)]) (sortI (rows8 B W)) tupI (fun r => dInt (r.getD 2 0)) rfl nd (bOk (by decide +kernel)) (id_V (ed_var 5) lvL) lvL (by rw [(sortI_perm _).length_eq]; omega) (fun r hr => ?_)) (by unfold intsD valsI; rw [List.map_map]; rfl)) (ad_cons (ed_tupleR (ed_var 6) hMm G.n_tuple) ad_nil))))
  have hr2 := (sortI_perm _).mem_iff.mp hr
  unfold rows8 at hr2
  obtain ⟨j, hj, rfl⟩ := List.mem_map.mp hr2
  obtain ⟨p, p1, p2, p3, p4⟩ := hat j (hW j (List.mem_filter.mp hj).1)
  have er : rowX B j = [p.1.kp, p.1.num, p.1.val] := by unfold rowX; rw [p2]; rfl
  refine ⟨_, gd_name 8 nd, ?_⟩
  rw [er]
  exact ed_ixT (ed_var 8) ed_int (show atI (intsD [p.1.kp, p.1.num, p.1.val]) 2 = some (dInt p.1.val) from rfl)
theorem sc_l8 : FnScope ["_law_looks", "_law_key", "_law_pick", "_law_many", "_law_own", "_law_first", "_law_other", "_law_mark", "_law_look", "_law_k"] ["_law_looks", "_law_key", "_law_pick", "_law_many"] (defScope (top 25)) := ⟨rfl, rfl, rfl, by decide +kernel, rfl, by decide +kernel, by decide +kernel⟩
theorem fd_l8 (G : Names K mg) {Cl : Addr} (UB : FD P w K mg base 1 "blank" 1 sBlank0) (UBo : FD P w K mg base 1 "_law_both" 2 sBoth8) {f : Addr} {fd : FuncData} (F : FnP K "_law_looked" 25 f fd) (hm : mg "_law_looked" = some (.ref f)) : FD P w K mg base 2 "_law_looked" 4 (sLooked8 Cl) := by
  refine fd_of F hm sc_l8 rfl (fun _ _ _ _ _ _ us hl => match us, hl with | [_, _, _, _], _ => rfl) fun A ds M r hr hl hs => ?_
  obtain ⟨M0, n, t, q, b, pick, rfl, h, hn1, hn9, ht, rfl, rfl⟩ := hs
  have nd := sc_l8.nd
  have hA : A.units + 64 < cLine := hr.units
  have hlk := mem8_lk (Cl := Cl) (M0 := M0) h.dl h.dsl
  have hlkl := h.lkl
  have hol : (own8L q b).length ≤ 60 := by
    have := List.length_filter_le (fun x : Lk8 => decide (V.str (kk x.1) = V.str (kk b))) q.lk
    unfold own8L
    omega
  have eln : dInt (((((own8L q b).map (lk8D (B8 M0 n) n)).length : Nat)) : Int) = dInt (((own8L q b).length : Nat) : Int) := by rw [List.length_map]
  have e0 : ∀ x : Lk8, atI [D.v (.str (kk x.1)), tupI x.2.1, setD (B8 M0 n) n x.2.2] 0 = some (.v (.str (kk x.1))) := fun _ => rfl
  have e1 : ∀ x : Lk8, atI [D.v (.str (kk x.1)), tupI x.2.1, setD (B8 M0 n) n x.2.2] 1 = some (tupI x.2.1) := fun _ => rfl
  have e2 : ∀ x : Lk8, atI [D.v (.str (kk x.1)), tupI x.2.1, setD (B8 M0 n) n x.2.2] 2 = some (setD (B8 M0 n) n x.2.2) := fun _ => rfl
  refine ⟨.rt _ _, rfl, ?_⟩
  refine sds_cons (sd_setLc (own := [("_law_look", 8)]) 4 q.lk (lk8D (B8 M0 n) n) (fun x => decide (V.str (kk x.1) = V.str (kk b))) (lk8D (B8 M0 n) n) rfl nd (bOk (by decide +kernel)) (id_V (ed_var 0) (lvR hlk)) (lvR hlk) (by omega) (fun x hx => ⟨_, gd_name 8 nd, tsd_one (td_eq (ed_ixT (ed_var 8) ed_int (e0 x)) (ed_var 1)), fun _ => ed_var 8⟩)) ?_
  rw [show q.lk.filter (fun x => decide (V.str (kk x.1) = V.str (kk b))) = own8L q b from rfl]
  unfold looked8
  by_cases h1 : own8L q b = [] ∨ pick % (((own8L q b).length : Int) + 1) = ((own8L q b).length : Int)
  · rw [if_pos h1]
    obtain ⟨m1, m2⟩ := mem8_new (Cl := Cl) (M0 := M0) h.dl h.dsl []
    show SDs _ _ _ _ (.rt (.tup [tupI (blankI n), setD (B8 M0 n) n q.ds.length]) (mem8 Cl M0 n { q with ds := q.ds ++ [[]] }))
    rw [← m1, ← m2]
    refine sds_stop (sd_ifT (td_w (wd_or (td_eqNil hA (ed_var 4) (ed_lst ad_nil) lvL lvL) fun _ => wd_or1 (td_eq (ed_mod (ed_var 2) (ed_add (ED.is (ed_len_lst (ed_var 4) G.n_len) eln) ed_int) (by omega)) (ED.is (ed_len_lst (ed_var 4) G.n_len) eln)))) ?_ (sds_one (sd_ret (ed_tup (ad_cons (ed_call UB hr (ad_cons (ed_var 3) ad_nil) ⟨n, rfl, hn1, hn9, rfl⟩) (ad_cons ed_dnewK ad_nil))))))
    rw [Bool.or_eq_true]
    rcases h1 with h1 | h1
    · exact .inl (by rw [h1]; rfl)
    · exact .inr (decide_eq_true (by rw [h1]))
  · rw [if_neg h1]
    obtain ⟨j, hj, ej, fj, fm⟩ := first8_at h1
    obtain ⟨fm1, fb⟩ := own8L_mem fm
    obtain ⟨f1, f2⟩ := h.lk _ fm1
    have hne : own8L q b ≠ [] := fun e => h1 (.inl e)
    have hc1 : (((own8L q b).map (lk8D (B8 M0 n) n)).isEmpty || decide (V.int (pick % (((own8L q b).length : Int) + 1)) = V.int ((own8L q b).length : Int))) = false := by
      rw [Bool.or_eq_false_iff]
      refine ⟨?_, decide_eq_false fun e => h1 (.inr (V.int.inj e))⟩
      cases e : own8L q b with
      | nil => exact absurd e hne
      | cons x y => rfl
    refine sds_cons (sd_ifN (td_w (wd_or (td_eqNil hA (ed_var 4) (ed_lst ad_nil) lvL lvL) fun _ => wd_or1 (td_eq (ed_mod (ed_var 2) (ed_add (ED.is (ed_len_lst (ed_var 4) G.n_len) eln) ed_int) (by omega)) (ED.is (ed_len_lst (ed_var 4) G.n_len) eln)))) hc1) ?_
    refine sds_cons (sd_set 5 (ed_ixL (i := ((j : Nat) : Int)) (d := lk8D (B8 M0 n) n (first8 q b pick)) (ed_var 4) (ED.is (ed_mod (ed_var 2) (ed_add (ED.is (ed_len_lst (ed_var 4) G.n_len) eln) ed_int) (by omega)) (congrArg dInt ej.symm)) (atI_nat (by rw [List.getElem?_map, fj]; rfl))) nd) ?_
    by_cases h2 : 0 < pick / (((own8L q b).length : Int) + 1) % 3
    · rw [if_pos h2]
      show SDs _ _ _ _ (.rt (.tup [tupI (first8 q b pick).2.1, setD (B8 M0 n) n (first8 q b pick).2.2]) (mem8 Cl M0 n { q with ds := q.ds ++ [] }))
      rw [List.append_nil]
      exact sds_stop (sd_ifT (td_gt (ed_mod (ed_fdiv (ed_var 2) (ed_add (ED.is (ed_len_lst (ed_var 4) G.n_len) eln) ed_int) (cdiv (by omega) (by omega))) ed_int (by decide)) ed_int) (decide_eq_true h2) (sds_one (sd_ret (ed_tup (ad_cons (ed_ixT (ed_var 5) ed_int (e1 _)) (ad_cons (ed_ixT (ed_var 5) ed_int (e2 _)) ad_nil))))))
    · rw [if_neg h2]
      obtain ⟨i, hi, ei, oi, om⟩ := other8_at (pick := pick) hne
      obtain ⟨om1, ob⟩ := own8L_mem om
      obtain ⟨o1, o2⟩ := h.lk _ om1
      refine sds_cons (sd_ifN (td_gt (ed_mod (ed_fdiv (ed_var 2) (ed_add (ED.is (ed_len_lst (ed_var 4) G.n_len) eln) ed_int) (cdiv (by omega) (by omega))) ed_int (by decide)) ed_int) (decide_eq_false h2)) ?_
      refine sds_cons (sd_set 6 (ed_ixL (i := ((i : Nat) : Int)) (d := lk8D (B8 M0 n) n (other8 q b pick)) (ed_var 4) (ED.is (ed_mod (ed_fdiv (ed_fdiv (ed_var 2) (ed_add (ED.is (ed_len_lst (ed_var 4) G.n_len) eln) ed_int) (cdiv (by omega) (by omega))) ed_int (cdiv (by decide) (by decide))) (ED.is (ed_len_lst (ed_var 4) G.n_len) eln) (by omega)) (congrArg dInt ei.symm)) (atI_nat (by rw [List.getElem?_map, oi]; rfl))) nd) ?_
      have fl := f2.len
      have ol := o2.len
      refine sds_cons (sd_set 7 (ED.is (d' := tupI (joinI (first8 q b pick).2.1 (other8 q b pick).2.1)) (ed_tupleL (ed_lcm (own := [("_law_k", 9)]) (List.range n) (fun (k : Nat) => dInt (k : Int)) (fun (k : Nat) => dInt (max ((first8 q b pick).2.1.getD k 0) ((other8 q b pick).2.1.getD k 0))) rfl nd (bOk (by decide +kernel)) (id_range1 (n := (n : Int)) (ad_cons (ed_var 3) ad_nil) (by omega) (by omega) G.n_range) trivial (by rw [List.length_range]; omega) (fun k hk => ⟨_, gd_name 9 nd, ed_max2 (ad_cons (ed_ixT (ed_ixT (ed_var 5) ed_int (e1 _)) (ed_var 9) (atI_ints (get_getD (by rw [fl]; exact List.mem_range.mp hk)))) (ad_cons (ed_ixT (ed_ixT (ed_var 6) ed_int (e1 _)) (ed_var 9) (atI_ints (get_getD (by rw [ol]; exact List.mem_range.mp hk)))) ad_nil)) rfl G.n_max⟩)) G.n_tuple) (congrArg D.tup (join_range fl ol))) nd) ?_
      obtain ⟨m1, m2⟩ := mem8_new (Cl := Cl) (M0 := M0) h.dl h.dsl (unionN (W8 q (first8 q b pick).2.2) (W8 q (other8 q b pick).2.2))
      obtain ⟨a1, a2⟩ := h.set f1
      obtain ⟨c1, c2⟩ := h.set o1
      have hchl := h.chl
      have l1 : (W8 q (first8 q b pick).2.2).length ≤ 1000 := Nat.le_trans (nd_lenX (G := List.range q.ch.length) a1 fun x hx => List.mem_range.mpr (a2 x hx)) (by rw [List.length_range]; omega)
      have l2 : (W8 q (other8 q b pick).2.2).length ≤ 1000 := Nat.le_trans (nd_lenX (G := List.range q.ch.length) c1 fun x hx => List.mem_range.mpr (c2 x hx)) (by rw [List.length_range]; omega)
      show SDs _ _ _ _ (.rt (.tup [tupI (joinI (first8 q b pick).2.1 (other8 q b pick).2.1), setD (B8 M0 n) n q.ds.length]) (mem8 Cl M0 n { q with ds := q.ds ++ [unionN (W8 q (first8 q b pick).2.2) (W8 q (other8 q b pick).2.2)] }))
      rw [← m1, ← m2]
      exact sds_one (sd_ret (ed_tup (ad_cons (ed_var 7) (ad_cons (ed_call UBo hr (ad_cons (ed_ixT (ed_var 5) ed_int (e2 _)) (ad_cons (ed_ixT (ed_var 6) ed_int (e2 _)) ad_nil)) ⟨_, _, W8 q (first8 q b pick).2.2, W8 q (other8 q b pick).2.2, rfl, mem8_set h.dl h.dsl f1, mem8_set h.dl h.dsl o1, l1, l2, rfl⟩) ad_nil))))
theorem sc_c8 : FnScope ["_law_store", "_law_world", "_law_spot", "_law_look", "_law_value_here", "_law_changes", "_law_known", "_law_number", "_law_grown", "_law_one"] ["_law_store", "_law_world", "_law_spot", "_law_look", "_law_value_here"] (defScope (top 28)) := ⟨rfl, rfl, rfl, by decide +kernel, rfl, by decide +kernel, by decide +kernel⟩
theorem fd_c8 (G : Names K mg) {Cl : Addr} (UPut : MDf P w K mg base 5 Cl "put" 5 (sStPut Cl)) (UDrop : MDf P w K mg base 4 Cl "drop" 4 (sStDrop Cl)) (UBo : FD P w K mg base 1 "_law_both" 2 sBoth8) {f : Addr} {fd : FuncData} (F : FnP K "_law_changed" 28 f fd) (hm : mg "_law_changed" = some (.ref f)) : FD P w K mg base 6 "_law_changed" 5 (sChanged8 Cl) := by
  refine fd_ofJ F hm sc_c8 rfl (fun _ _ _ _ _ _ us hl => match us, hl with | [_, _, _, _, _], _ => rfl) fun A ds M r hr hl hs => ?_
  obtain ⟨M0, n, t, q, b, k, u, ui, v, rfl, h, hn1, hn9, ht, hk, hui, hu, rfl, rfl⟩ := hs
  have nd := sc_c8.nd
  have hA1 : A.units + 1 < cLine := Nat.lt_of_le_of_lt (by omega) hr.units
  have r1 : Room 1 A := hr.mono (by decide)
  have r4 : Room 4 A := hr.mono (by decide)
  obtain ⟨kn1, kn2⟩ := h.kn (b := b) hk
  obtain ⟨hg, _⟩ := h.good8 ht b hk
  have hdl := h.dl8 hk
  have at0 := mem8_at (Cl := Cl) (M0 := M0) (q := q) h.dl hk
  have hds := h.dsl
  have hchl := h.chl
  obtain ⟨sW1, sW2⟩ := h.set kn2
  obtain ⟨sU1, sU2⟩ := h.set hui
  have lW : (K8 q b k).length ≤ 1000 := Nat.le_trans (nd_lenX (G := List.range q.ch.length) sW1 fun x hx => List.mem_range.mpr (sW2 x hx)) (by rw [List.length_range]; omega)
  have lU : (W8 q ui).length ≤ 1000 := Nat.le_trans (nd_lenX (G := List.range q.ch.length) sU1 fun x hx => List.mem_range.mpr (sU2 x hx)) (by rw [List.length_range]; omega)
  have kt : D.tup [dInt (k : Nat), .v (.str (kk b))] = keyT [.inl ((k : Nat) : Int), .inr (kk b)] := rfl
  have l0 : atI [tupI u, setD (B8 M0 n) n ui] 0 = some (tupI u) := rfl
  have l1 : atI [tupI u, setD (B8 M0 n) n ui] 1 = some (setD (B8 M0 n) n ui) := rfl
  have s0 : atI [dInt (k : Nat), D.v (.str (kk b))] 0 = some (dInt (k : Nat)) := rfl
  have s1 : atI [dInt (k : Nat), D.v (.str (kk b))] 1 = some (.v (.str (kk b))) := rfl
  refine exs_cons (sd_asg (d := .tup [.res (B8 M0 n + (2 * n + 1)), .res (B8 M0 n)]) (ed_var 1) (gd_tup (gsd_cons (gd_name 5 nd) (gsd_cons (gd_name 6 nd) gsd_nil)) rfl)) ?_
  refine exs_join (Q := fun S1 M1 => ∃ (x7 : Option D) (qb : Q8), S1 = [some (.res M0.length), some (.tup [.res (B8 M0 n + (2 * n + 1)), .res (B8 M0 n)]), some (.tup [dInt (k : Nat), .v (.str (kk b))]), some (.tup [tupI u, setD (B8 M0 n) n ui]), some (optV v), some (.res (B8 M0 n + (2 * n + 1))), some (.res (B8 M0 n)), x7, none, none] ∧
    M1 = mem8 Cl M0 n qb ∧ qb.dc.length = n ∧ qb.ds = q.ds ∧ qb.kn = q.kn ∧ qb.ch.length = q.ch.length + 1 ∧ { qb with ds := qb.ds ++ [addN (unionN (K8 q b k) (W8 q ui)) q.ch.length], kn := qb.kn.set (kid b k) q.ds.length } = put8 n q b k u ui v) ?ifs ?aft
  case aft =>
    rintro S1 M1 ⟨x7, qb, rfl, rfl, bdl, bds, bkn, bch, bput⟩
    have hds2 : 2 * n ≤ qb.ds.length := by rw [bds]; exact hds
    have kd : qb.kn[kid b k]? = some (q.kn.getD (kid b k) 0) := by rw [bkn]; exact kn1
    have w1 : W8 qb (q.kn.getD (kid b k) 0) = K8 q b k := by unfold K8 W8; rw [bds]
    have w2 : W8 qb ui = W8 q ui := by unfold W8; rw [bds]
    obtain ⟨m1, m2⟩ := mem8_new (Cl := Cl) (M0 := M0) (q := qb) bdl hds2 (unionN (K8 q b k) (W8 q ui))
    have gk := mem8_set (Cl := Cl) (M0 := M0) (q := qb) bdl hds2 (i := q.kn.getD (kid b k) 0) (by rw [bds]; exact kn2)
    have gu := mem8_set (Cl := Cl) (M0 := M0) (q := qb) bdl hds2 (i := ui) (by rw [bds]; exact hui)
    have gk' : (mem8 Cl M0 n qb)[B8 M0 n + adr n (q.kn.getD (kid b k) 0)]? = some (.dK (keysK (K8 q b k))) := by rw [← w1]; exact gk
    have gu' : (mem8 Cl M0 n qb)[B8 M0 n + adr n ui]? = some (.dK (keysK (W8 q ui))) := by rw [← w2]; exact gu
    refine exs_cons (S1 := [some (.res M0.length), some (.tup [.res (B8 M0 n + (2 * n + 1)), .res (B8 M0 n)]), some (.tup [dInt (k : Nat), .v (.str (kk b))]), some (.tup [tupI u, setD (B8 M0 n) n ui]), some (optV v), some (.res (B8 M0 n + (2 * n + 1))), some (.res (B8 M0 n)), x7, some (setD (B8 M0 n) n qb.ds.length), none]) (M1 := mem8 Cl M0 n { qb with ds := qb.ds ++ [unionN (K8 q b k) (W8 q ui)] }) ?_ ?_
    · rw [← m1, ← m2]
      exact sd_set 8 (ed_call UBo r1 (ad_cons (ed_dgetX (key := [.inl ((k : Nat) : Int), .inr (kk b)]) hA1 (ed_var 6) (ED.is (ed_var 2) kt) (mem8_kn bdl) (kn8D_val kd) (fun _ _ => rfl)) (ad_cons (ed_ixT (ed_var 3) ed_int l1) ad_nil)) ⟨_, _, K8 q b k, W8 q ui, rfl, gk', gu', lW, lU, rfl⟩) nd
    have hch2 := mem8_ch (Cl := Cl) (M0 := M0) (q := { qb with ds := qb.ds ++ [unionN (K8 q b k) (W8 q ui)] }) bdl (by show 2 * n ≤ (qb.ds ++ [_]).length; rw [List.length_append]; omega)
    have elc : dInt ((((qb.ch.map (ch8D (B8 M0 n) n)).length : Nat)) : Int) = dInt ((q.ch.length + 1 : Nat) : Int) := by rw [List.length_map, bch]
    have gl := mem8_set (Cl := Cl) (M0 := M0) (q := { qb with ds := qb.ds ++ [unionN (K8 q b k) (W8 q ui)] }) bdl (by show 2 * n ≤ (qb.ds ++ [_]).length; rw [List.length_append]; omega) (i := qb.ds.length) (by show qb.ds.length < (qb.ds ++ [_]).length; simp)
    have wl : W8 { qb with ds := qb.ds ++ [unionN (K8 q b k) (W8 q ui)] } qb.ds.length = unionN (K8 q b k) (W8 q ui) := W8_new
    have gl' : (mem8 Cl M0 n { qb with ds := qb.ds ++ [unionN (K8 q b k) (W8 q ui)] })[B8 M0 n + adr n qb.ds.length]? = some (.dK (keysK (unionN (K8 q b k) (W8 q ui)))) := gl.trans (congrArg (fun L => some (MO.dK (keysK L))) wl)
    have hll := unionN_len (W8 q ui) (K8 q b k)
    refine exs_cons (S1 := [some (.res M0.length), some (.tup [.res (B8 M0 n + (2 * n + 1)), .res (B8 M0 n)]), some (.tup [dInt (k : Nat), .v (.str (kk b))]), some (.tup [tupI u, setD (B8 M0 n) n ui]), some (optV v), some (.res (B8 M0 n + (2 * n + 1))), some (.res (B8 M0 n)), x7, some (setD (B8 M0 n) n qb.ds.length), none]) (M1 := mem8 Cl M0 n { qb with ds := qb.ds ++ [addN (unionN (K8 q b k) (W8 q ui)) q.ch.length] }) ?_ ?_
    · have ml := mem8_last (Cl := Cl) (M0 := M0) (q := qb) bdl hds2 (unionN (K8 q b k) (W8 q ui)) (addN (unionN (K8 q b k) (W8 q ui)) q.ch.length)
      rw [← keysK_put] at ml
      rw [← ml]
      exact sd_dputK (key := .inl ((q.ch.length : Nat) : Int)) hA1 ed_bl (ed_var 8) (ED.is (ed_sub (ED.is (ed_len_res (ed_var 5) hch2 G.n_len) elc) ed_int) (congrArg dInt (by omega))) gl' (by rw [keysK_len]; omega)
    refine ⟨.nx [some (.res M0.length), some (.tup [.res (B8 M0 n + (2 * n + 1)), .res (B8 M0 n)]), some (.tup [dInt (k : Nat), .v (.str (kk b))]), some (.tup [tupI u, setD (B8 M0 n) n ui]), some (optV v), some (.res (B8 M0 n + (2 * n + 1))), some (.res (B8 M0 n)), x7, some (setD (B8 M0 n) n qb.ds.length), none] (mem8 Cl M0 n (put8 n q b k u ui v)), .is rfl, sds_one ?_⟩
    have hkp := kn8D_put (i := 0) (B := B8 M0 n) (n := n) (kn := qb.kn) (b := b) (k := k) (by rw [bkn, h.kl]; exact kid_lt hk) q.ds.length
    have mk := mem8_kns (Cl := Cl) (M0 := M0) (q := { qb with ds := qb.ds ++ [addN (unionN (K8 q b k) (W8 q ui)) q.ch.length] }) bdl (qb.kn.set (kid b k) q.ds.length)
    have mk2 : (mem8 Cl M0 n { qb with ds := qb.ds ++ [addN (unionN (K8 q b k) (W8 q ui)) q.ch.length] }).set (B8 M0 n) (.dT (kn8D (B8 M0 n) n (qb.kn.set (kid b k) q.ds.length))) = mem8 Cl M0 n (put8 n q b k u ui v) := by
      rw [← bput]
      exact mk
    rw [← mk2, ← hkp, ← bds]
    exact sd_dputX (key := [.inl ((k : Nat) : Int), .inr (kk b)]) hA1 (ed_var 8) (ed_var 6) (ED.is (ed_var 2) kt) (mem8_kn (q := { qb with ds := qb.ds ++ [addN (unionN (K8 q b k) (W8 q ui)) q.ch.length] }) bdl) (by rw [kn8D_len]; show qb.kn.length < 100000; rw [bkn, h.kl]; omega)
  case ifs =>
    have hul : u.length = n := hu.len
    have hnn : ∀ x ∈ u, 0 ≤ x := fun x hx => by
      obtain ⟨j, hj⟩ := List.getElem?_of_mem hx
      have := hu.nn j
      rw [List.getD_eq_getElem?_getD, hj] at this
      exact this
    cases v with
    | none =>
      refine ⟨_, _, ⟨none, { q with dc := q.dc.set k (putS (q.dc.getD k []) (kk b) (dropShelf (sh8 n q b k) u)), ch := q.ch ++ [⟨-1, 0, 0, ui, b⟩] }, rfl, rfl, by show (q.dc.set _ _).length = n; rw [List.length_set]; exact h.dl, rfl, rfl, by show (q.ch ++ [_]).length = _; simp, rfl⟩, ?_⟩
      refine sd_ifT (td_isN (v := .non) (ed_var 4)) rfl (sds_cons (S1 := [some (.res M0.length), some (.tup [.res (B8 M0 n + (2 * n + 1)), .res (B8 M0 n)]), some (.tup [dInt (k : Nat), .v (.str (kk b))]), some (.tup [tupI u, setD (B8 M0 n) n ui]), some (.v .non), some (.res (B8 M0 n + (2 * n + 1))), some (.res (B8 M0 n)), none, none, none]) (M1 := mem8 Cl M0 n { q with dc := q.dc.set k (putS (q.dc.getD k []) (kk b) (dropShelf (sh8 n q b k) u)) }) ?_ (sds_one ?_))
      · rw [← mem8_dc h.dl hk]
        exact sd_expr (ed_meth UDrop r4 (ed_var 0) (ad_cons (ed_ixT (ed_var 2) ed_int s0) (ad_cons (ed_ixT (ed_var 2) ed_int s1) (ad_cons (ed_ixT (ed_var 3) ed_int l0) ad_nil))) at0.own rfl ⟨M0.length, k, _, n, _, _, _, kk b, u, at0, hg, hn9, hul, hnn, hdl, rfl, rfl⟩)
      · have bdl : ({ q with dc := q.dc.set k (putS (q.dc.getD k []) (kk b) (dropShelf (sh8 n q b k) u)) } : Q8).dc.length = n := by show (q.dc.set _ _).length = n; rw [List.length_set]; exact h.dl
        have hch := mem8_ch (Cl := Cl) (M0 := M0) bdl hds
        have mc := mem8_chs (Cl := Cl) (M0 := M0) bdl hds ⟨-1, 0, 0, ui, b⟩
        rw [← mc]
        exact sd_expr (ed_append (ed_var 5) (ED.is (d' := ch8D (B8 M0 n) n ⟨-1, 0, 0, ui, b⟩) (ed_tup (ad_cons (ed_neg ed_int) (ad_cons ed_int (ad_cons ed_int (ad_cons (ed_ixT (ed_var 3) ed_int l1) ad_nil))))) rfl) hch hch (by rw [List.length_map]; show q.ch.length < 100000; omega))
    | some v =>
      refine ⟨_, _, ⟨some (dInt (own8 n q b k + 1)), { q with dc := q.dc.set k (putS (q.dc.getD k []) (kk b) (putShelf (sh8 n q b k) u k v)), ch := q.ch ++ [⟨(k : Int), own8 n q b k + 1, v, ui, b⟩] }, rfl, rfl, by show (q.dc.set _ _).length = n; rw [List.length_set]; exact h.dl, rfl, rfl, by show (q.ch ++ [_]).length = _; simp, rfl⟩, ?_⟩
      have hch0 := mem8_ch (Cl := Cl) (M0 := M0) h.dl hds
      have gk0 := mem8_set (Cl := Cl) (M0 := M0) h.dl hds kn2
      have hcnt := count8 (h.sh b k hk).1 (h.num b) hk
      refine sd_ifF (td_isN (v := .int v) (ed_var 4)) rfl (sds_cons (M1 := mem8 Cl M0 n q) (S1 := [some (.res M0.length), some (.tup [.res (B8 M0 n + (2 * n + 1)), .res (B8 M0 n)]), some (.tup [dInt (k : Nat), .v (.str (kk b))]), some (.tup [tupI u, setD (B8 M0 n) n ui]), some (dInt v), some (.res (B8 M0 n + (2 * n + 1))), some (.res (B8 M0 n)), some (dInt (own8 n q b k + 1)), none, none]) ?_ (sds_cons (S1 := [some (.res M0.length), some (.tup [.res (B8 M0 n + (2 * n + 1)), .res (B8 M0 n)]), some (.tup [dInt (k : Nat), .v (.str (kk b))]), some (.tup [tupI u, setD (B8 M0 n) n ui]), some (dInt v), some (.res (B8 M0 n + (2 * n + 1))), some (.res (B8 M0 n)), some (dInt (own8 n q b k + 1)), none, none]) (M1 := mem8 Cl M0 n { q with dc := q.dc.set k (putS (q.dc.getD k []) (kk b) (putShelf (sh8 n q b k) u k v)) }) ?_ (sds_one ?_)))
      · have hiL : B8 M0 n + adr n (q.kn.getD (kid b k) 0) < (mem8 Cl M0 n q).length := (List.getElem?_eq_some_iff.mp gk0).1
        have hadr : 1 ≤ adr n (q.kn.getD (kid b k) 0) := by unfold adr; split <;> omega
        have hnc : B8 M0 n + adr n (q.kn.getD (kid b k) 0) ≠ B8 M0 n + (2 * n + 1) := by unfold adr; split <;> omega
        have hgk : ∀ o0, ((mem8 Cl M0 n q).set (B8 M0 n + adr n (q.kn.getD (kid b k) 0)) (.fz (keysK (K8 q b k)) o0))[B8 M0 n]? = some (.dT (kn8D (B8 M0 n) n q.kn)) := fun o0 => by
          rw [List.getElem?_set_ne (by omega)]
          exact mem8_kn h.dl
        have hgc : ∀ o0, ((mem8 Cl M0 n q).set (B8 M0 n + adr n (q.kn.getD (kid b k) 0)) (.fz (keysK (K8 q b k)) o0))[B8 M0 n + (2 * n + 1)]? = some (.lst (q.ch.map (ch8D (B8 M0 n) n))) := fun o0 => by
          rw [List.getElem?_set_ne hnc]
          exact hch0
        have hgz : ∀ o0, ((mem8 Cl M0 n q).set (B8 M0 n + adr n (q.kn.getD (kid b k) 0)) (.fz (keysK (K8 q b k)) o0))[B8 M0 n + adr n (q.kn.getD (kid b k) 0)]? = some (.fz (keysK (K8 q b k)) o0) := fun o0 => by
          rw [List.getElem?_set_self hiL]
        have ecl : dInt (((((K8 q b k).filter fun i => decide (kpA (A8 q) i = (k : Int))).map fun (i : Nat) => dInt (i : Int)).length : Nat) : Int) = dInt ((((K8 q b k).filter fun i => decide (kpA (A8 q) i = (k : Int))).length : Nat) : Int) := by rw [List.length_map]
        refine sd_set 7 (ED.is (ed_add ed_int (ED.is (ed_len_lst (ed_lock (n := B8 M0 n + adr n (q.kn.getD (kid b k) 0)) (kvs := keysK (K8 q b k)) gk0 (fun o0 => ed_lc (own := [("_law_one", 9)]) (K8 q b k) (fun (i : Nat) => dInt (i : Int)) (fun i => decide (kpA (A8 q) i = (k : Int))) (fun (i : Nat) => dInt (i : Int)) rfl nd (bOk (by decide +kernel)) ((id_keysK (kvs := keysK (K8 q b k)) (o0 := o0) (ed_dgetX (key := [.inl ((k : Nat) : Int), .inr (kk b)]) hA1 (ed_var 6) (ED.is (ed_var 2) kt) (hgk o0) (kn8D_val kn1) (fun _ _ => rfl)) (hgz o0)).is (keysK_ks _)) (hgz o0) (by omega) (fun c hc => ?_)) gk0) G.n_len) ecl)) (congrArg dInt (by rw [hcnt]; unfold own8; omega))) nd
        have hcl := sW2 c hc
        have ec : (A8 q)[c]? = some ⟨q.ch[c].kp, q.ch[c].num, q.ch[c].val, q.ds.getD q.ch[c].sd [], q.ch[c].key⟩ := by
          unfold A8
          rw [List.getElem?_map, List.getElem?_eq_getElem hcl]; rfl
        have ek : kpA (A8 q) c = q.ch[c].kp := by unfold kpA; rw [ec]; rfl
        have eat : atI (q.ch.map (ch8D (B8 M0 n) n)) ((c : Nat) : Int) = some (ch8D (B8 M0 n) n q.ch[c]) := atI_nat (by rw [List.getElem?_map, List.getElem?_eq_getElem hcl]; rfl)
        exact ⟨_, gd_name 9 nd, tsd_one (TD.is (td_eq (ed_ixT (ed_ixR (ed_var 5) (ed_var 9) (hgc o0) eat) ed_int (show atI [dInt q.ch[c].kp, dInt q.ch[c].num, dInt q.ch[c].val, setD (B8 M0 n) n q.ch[c].sd] 0 = some (dInt q.ch[c].kp) from rfl)) (ed_ixT (ed_var 2) ed_int s0)) (by rw [ek, dec_int]; rfl)), fun _ => ed_var 9⟩
      · rw [← mem8_dc h.dl hk]
        exact sd_expr (ed_meth UPut (hr.mono (by decide)) (ed_var 0) (ad_cons (ed_ixT (ed_var 2) ed_int s0) (ad_cons (ed_ixT (ed_var 2) ed_int s1) (ad_cons (ed_var 4) (ad_cons (ed_ixT (ed_var 3) ed_int l0) ad_nil)))) at0.own rfl ⟨M0.length, k, _, n, _, _, _, kk b, v, u, at0, hg, hn9, hul, hnn, hdl, rfl, rfl⟩)
      · have bdl : ({ q with dc := q.dc.set k (putS (q.dc.getD k []) (kk b) (putShelf (sh8 n q b k) u k v)) } : Q8).dc.length = n := by show (q.dc.set _ _).length = n; rw [List.length_set]; exact h.dl
        have hch := mem8_ch (Cl := Cl) (M0 := M0) bdl hds
        have mc := mem8_chs (Cl := Cl) (M0 := M0) bdl hds ⟨(k : Int), own8 n q b k + 1, v, ui, b⟩
        rw [← mc]
        exact sd_expr (ed_append (ed_var 5) (ED.is (d' := ch8D (B8 M0 n) n ⟨(k : Int), own8 n q b k + 1, v, ui, b⟩) (ed_tup (ad_cons (ed_ixT (ed_var 2) ed_int s0) (ad_cons (ed_var 7) (ad_cons (ed_var 4) (ad_cons (ed_ixT (ed_var 3) ed_int l1) ad_nil))))) rfl) hch hch (by rw [List.length_map]; show q.ch.length < 100000; omega))
theorem sc_de8 : FnScope ["_law_store", "_law_world", "_law_heard", "_law_cell", "_law_turn", "_law_few", "_law_looks", "_law_letters", "_law_known", "_law_many", "_law_keeper", "_law_key", "_law_pick", "_law_sort", "_law_value_here", "_law_letter", "_law_some"] ["_law_store", "_law_world", "_law_heard", "_law_cell", "_law_turn", "_law_few"] (defScope (top 30)) := ⟨rfl, rfl, rfl, by decide +kernel, rfl, by decide +kernel, by decide +kernel⟩
theorem fd_de8 (G : Names K mg) {Cl : Addr} (UV : FD P w K mg base 1 "_law_value" 2 sVal8) (UA : FD P w K mg base 3 "_law_asked" 3 (sAsked8 Cl)) (UL : FD P w K mg base 2 "_law_looked" 4 (sLooked8 Cl)) (UCh : FD P w K mg base 6 "_law_changed" 5 (sChanged8 Cl)) (UBo : FD P w K mg base 1 "_law_both" 2 sBoth8)
    (ULook : MDf P w K mg base 2 Cl "look" 3 (sLook Cl)) (ULet : MDf P w K mg base 2 Cl "letter" 3 (sLetter Cl)) (UTake : MDf P w K mg base 4 Cl "take" 3 (sTake Cl)) {f : Addr} {fd : FuncData} (F : FnP K "_law_deed" 30 f fd) (hm : mg "_law_deed" = some (.ref f)) : FD P w K mg base 7 "_law_deed" 6 (sDeed8 Cl) := by
  refine fd_ofJ F hm sc_de8 rfl (fun _ _ _ _ _ _ us hl => match us, hl with | [_, _, _, _, _, _], _ => rfl) fun A ds M r hr hl hs => ?_
  obtain ⟨M0, n, t, q, few, c, rfl, h, hn1, hn9, ht, rfl, rfl⟩ := hs
  have nd := sc_de8.nd
  have hA : A.units + 64 < cLine := hr.units
  have hA1 : A.units + 1 < cLine := Nat.lt_of_le_of_lt (by omega) hr.units
  have r1 : Room 1 A := hr.mono (by decide)
  have r2 : Room 2 A := hr.mono (by decide)
  have r3 : Room 3 A := hr.mono (by decide)
  have r4 : Room 4 A := hr.mono (by decide)
  have hds := h.dsl
  have hchl := h.chl
  obtain ⟨hk, ek⟩ := kp10_lt hn1 c
  generalize hkp : kp10 n c = k at hk ek
  have hlen : ∀ {i : Nat}, i < q.ds.length → (W8 q i).length ≤ 1000 := fun hi => by
    obtain ⟨a1, a2⟩ := h.set hi
    exact Nat.le_trans (nd_lenX (G := List.range q.ch.length) a1 fun x hx => List.mem_range.mpr (a2 x hx)) (by rw [List.length_range]; omega)
  have eln : dInt ((((kn8D (B8 M0 n) n q.kn).length : Nat)) : Int) = dInt ((2 * n : Nat) : Int) := by rw [kn8D_len, h.kl]
  have hkn0 := mem8_kn (Cl := Cl) (M0 := M0) (q := q) h.dl
  refine exs_cons (sd_asg (d := .tup [.res (B8 M0 n + (2 * n + 2)), .res (B8 M0 n + (2 * n + 3))]) (ed_var 2) (gd_tup (gsd_cons (gd_name 6 nd) (gsd_cons (gd_name 7 nd) gsd_nil)) rfl)) ?_
  refine exs_cons (sd_set 8 (ed_ixT (d := .res (B8 M0 n)) (ed_var 1) ed_int rfl) nd) ?_
  refine exs_cons (sd_set 9 (ED.is (d' := dInt (n : Nat)) (ed_fdiv (ED.is (ed_lenT (ed_var 8) hkn0 G.n_len) eln) ed_int (cdiv (by decide) (by decide))) (congrArg dInt (by omega))) nd) ?_
  refine exs_cons (sd_set 10 (ED.is (d' := dInt (k : Nat)) (ed_mod (ed_fdiv (ed_var 3) ed_int (cdiv (by decide) (by decide))) (ed_var 9) (by omega)) (congrArg dInt ek.symm)) nd) ?_
  have ekey : atI [D.v (.str ("a" : Str)), D.v (.str ("b" : Str))] (c / 81 % 2) = some (.v (.str (kk (key8 c)))) := by
    unfold key8
    have : c / 81 % 2 = 0 ∨ c / 81 % 2 = 1 := by omega
    rcases this with e | e <;> rw [e] <;> rfl
  refine exs_cons (sd_set 11 (ed_ixL (ed_lst (ad_cons ed_str (ad_cons ed_str ad_nil))) (ed_mod (ed_fdiv (ed_var 3) ed_int (cdiv (by decide) (by decide))) ed_int (by decide)) ekey) nd) ?_
  refine exs_cons (sd_set 12 (ED.is (d' := dInt (pick8 c (t : Nat))) (ed_add (ed_fdiv (ed_var 3) ed_int (cdiv (by decide) (by decide))) (ed_mul ed_int (ed_var 4) (.inl ⟨by decide, by decide⟩))) rfl) nd) ?_
  refine exs_cons (sd_set 13 (ED.is (d' := dInt (srt10 c (t : Nat))) (ed_mod (ed_add (ed_var 3) (ed_var 4)) ed_int (by decide)) rfl) nd) ?_
  have at0 := mem8_at (Cl := Cl) (M0 := M0) (q := q) h.dl hk
  have gd : ∀ b, GoodS n (sh8 n q b k) ∧ (sh8 n q b k).2.length < 64 := fun b => h.good8 (by omega) b hk
  have hdl := h.dl8 hk
  refine exs_cons (sd_expr (ed_call UA r3 (ad_cons (ed_var 0) (ad_cons (ed_var 10) (ad_cons (ed_var 11) ad_nil))) ⟨M0.length, k, _, n, _, _, _, kk (key8 c), at0, (gd _).1, hdl, rfl, rfl⟩)) ?_
  obtain ⟨kn1, kn2⟩ := h.kn (b := key8 c) hk
  have kt : ∀ b, D.tup [dInt (k : Nat), .v (.str (kk b))] = keyT [.inl ((k : Nat) : Int), .inr (kk b)] := fun _ => rfl
  have gk := mem8_set (Cl := Cl) (M0 := M0) h.dl hds kn2
  have hlk := mem8_lk (Cl := Cl) (M0 := M0) h.dl hds
  have hlt := mem8_lt (Cl := Cl) (M0 := M0) h.dl hds
  obtain ⟨m1, m2⟩ := mem8_new (Cl := Cl) (M0 := M0) h.dl hds (K8 q (key8 c) k)
  have hds2 : 2 * n ≤ (q.ds ++ [K8 q (key8 c) k]).length := by rw [List.length_append]; omega
  have hlkl := h.lkl
  have hltl := h.ltl
  unfold deed8
  rw [hkp]
  by_cases g1 : srt10 c (t : Nat) < 4
  · rw [if_pos g1]
    obtain ⟨o1, o2, o3⟩ := looked8_ok (b := key8 c) h (pick8 c (t : Nat)) rfl
    refine exs_cons (S1 := [some (.res M0.length), some (.tup [.res (B8 M0 n + (2 * n + 1)), .res (B8 M0 n)]), some (.tup [.res (B8 M0 n + (2 * n + 2)), .res (B8 M0 n + (2 * n + 3))]), some (dInt c), some (dInt (t : Nat)), some (.v (.bl few)), some (.res (B8 M0 n + (2 * n + 2))), some (.res (B8 M0 n + (2 * n + 3))), some (.res (B8 M0 n)), some (dInt (n : Nat)), some (dInt (k : Nat)), some (.v (.str (kk (key8 c)))), some (dInt (pick8 c (t : Nat))), some (dInt (srt10 c (t : Nat))), some (optV (if srt10 c (t : Nat) < 3 then some (val8 few c) else none)), none, none]) (M1 := mem8 Cl M0 n (chd8 n q few c (t : Nat))) ?_ ⟨_, .is rfl, sds_one (sd_ret (ed_tup (ad_cons (ed_var 10) (ad_cons (ed_var 11) ad_nil))))⟩
    refine sd_ifT (td_lt (ed_var 13) ed_int) (decide_eq_true g1) (sds_cons (sd_set 14 ed_non nd) (sds_cons (S1 := [some (.res M0.length), some (.tup [.res (B8 M0 n + (2 * n + 1)), .res (B8 M0 n)]), some (.tup [.res (B8 M0 n + (2 * n + 2)), .res (B8 M0 n + (2 * n + 3))]), some (dInt c), some (dInt (t : Nat)), some (.v (.bl few)), some (.res (B8 M0 n + (2 * n + 2))), some (.res (B8 M0 n + (2 * n + 3))), some (.res (B8 M0 n)), some (dInt (n : Nat)), some (dInt (k : Nat)), some (.v (.str (kk (key8 c)))), some (dInt (pick8 c (t : Nat))), some (dInt (srt10 c (t : Nat))), some (optV (if srt10 c (t : Nat) < 3 then some (val8 few c) else none)), none, none]) (M1 := mem8 Cl M0 n q) ?_ (sds_one (sd_expr (d := .v .non) ?_))))
    · by_cases g2 : srt10 c (t : Nat) < 3
      · rw [if_pos g2]
        exact sd_ifT (td_lt (ed_var 13) ed_int) (decide_eq_true g2) (sds_one (sd_set 14 (ed_call UV r1 (ad_cons (ed_var 3) (ad_cons (ed_var 5) ad_nil)) ⟨c, few, rfl, rfl⟩) nd))
      · rw [if_neg g2]
        exact sd_ifN (td_lt (ed_var 13) ed_int) (decide_eq_false g2)
    · unfold chd8
      rw [hkp]
      exact ed_call UCh hr (ad_cons (ed_var 0) (ad_cons (ed_var 1) (ad_cons (ed_tup (ad_cons (ed_var 10) (ad_cons (ed_var 11) ad_nil))) (ad_cons (ed_call UL r2 (ad_cons (ed_var 6) (ad_cons (ed_var 11) (ad_cons (ed_var 12) (ad_cons (ed_var 9) ad_nil)))) ⟨M0, n, t, q, key8 c, pick8 c (t : Nat), rfl, h, hn1, hn9, by omega, rfl, rfl⟩) (ad_cons (ed_var 14) ad_nil)))))
        ⟨M0, n, t, _, key8 c, k, _, _, _, rfl, o1, hn1, hn9, by omega, hk, o2, o3, rfl, rfl⟩
  rw [if_neg g1]
  by_cases g2 : srt10 c (t : Nat) < 6
  · rw [if_pos g2]
    have s1 : atI [D.lst (intsD (valsI (sh8 n q (key8 c) k).2)), tupI (sh8 n q (key8 c) k).1] 1 = some (tupI (sh8 n q (key8 c) k).1) := rfl
    have lk2 : (mem8 Cl M0 n q ++ [MO.dK (keysK (K8 q (key8 c) k))])[B8 M0 n + (2 * n + 2)]? = some (.lst (q.lk.map (lk8D (B8 M0 n) n))) := by
      rw [m1]; exact mem8_lk (q := { q with ds := q.ds ++ [K8 q (key8 c) k] }) h.dl hds2
    have ml : (mem8 Cl M0 n q ++ [MO.dK (keysK (K8 q (key8 c) k))]).set (B8 M0 n + (2 * n + 2)) (.lst (q.lk.map (lk8D (B8 M0 n) n) ++ [lk8D (B8 M0 n) n (key8 c, (sh8 n q (key8 c) k).1, q.ds.length)])) = mem8 Cl M0 n (look8 n q (key8 c) k) := by
      rw [m1]; exact mem8_lks (q := { q with ds := q.ds ++ [K8 q (key8 c) k] }) h.dl hds2 (key8 c, (sh8 n q (key8 c) k).1, q.ds.length)
    refine exs_cons (S1 := [some (.res M0.length), some (.tup [.res (B8 M0 n + (2 * n + 1)), .res (B8 M0 n)]), some (.tup [.res (B8 M0 n + (2 * n + 2)), .res (B8 M0 n + (2 * n + 3))]), some (dInt c), some (dInt (t : Nat)), some (.v (.bl few)), some (.res (B8 M0 n + (2 * n + 2))), some (.res (B8 M0 n + (2 * n + 3))), some (.res (B8 M0 n)), some (dInt (n : Nat)), some (dInt (k : Nat)), some (.v (.str (kk (key8 c)))), some (dInt (pick8 c (t : Nat))), some (dInt (srt10 c (t : Nat))), none, none, none]) (M1 := mem8 Cl M0 n (look8 n q (key8 c) k)) (sd_ifF (td_lt (ed_var 13) ed_int) (decide_eq_false g1) (sds_one (sd_ifT (td_lt (ed_var 13) ed_int) (decide_eq_true g2) (sds_one ?_)))) ⟨_, .is rfl, sds_one (sd_ret (ed_tup (ad_cons (ed_var 10) (ad_cons (ed_var 11) ad_nil))))⟩
    rw [← ml]
    exact sd_expr (ed_append (ed_var 6) (ED.is (d' := lk8D (B8 M0 n) n (key8 c, (sh8 n q (key8 c) k).1, q.ds.length)) (ed_tup (ad_cons (ed_var 11) (ad_cons (ed_ixT (ed_meth ULook r2 (ed_var 0) (ad_cons (ed_var 10) (ad_cons (ed_var 11) ad_nil)) at0.own rfl ⟨M0.length, k, _, n, _, _, _, kk (key8 c), at0, (gd _).1, rfl, .inl rfl⟩) ed_int s1) (ad_cons (ed_copyD (kvs := keysK (K8 q (key8 c) k)) (ed_dgetX (key := [.inl ((k : Nat) : Int), .inr (kk (key8 c))]) hA1 (ed_var 8) (ED.is (ed_tup (ad_cons (ed_var 10) (ad_cons (ed_var 11) ad_nil))) (kt _)) hkn0 (kn8D_val kn1) (fun _ _ => rfl)) gk G.n_dict) ad_nil)))) (by rw [m2]; rfl)) hlk lk2 (by rw [List.length_map]; omega))
  rw [if_neg g2]
  by_cases g3 : srt10 c (t : Nat) = 6 ∨ q.lt = []
  · rw [if_pos g3]
    have lt2 : (mem8 Cl M0 n q ++ [MO.dK (keysK (K8 q (key8 c) k))])[B8 M0 n + (2 * n + 3)]? = some (.lst (q.lt.map (lt8D (B8 M0 n) n))) := by
      rw [m1]; exact mem8_lt (q := { q with ds := q.ds ++ [K8 q (key8 c) k] }) h.dl hds2
    have ml : (mem8 Cl M0 n q ++ [MO.dK (keysK (K8 q (key8 c) k))]).set (B8 M0 n + (2 * n + 3)) (.lst (q.lt.map (lt8D (B8 M0 n) n) ++ [lt8D (B8 M0 n) n (key8 c, sh8 n q (key8 c) k, q.ds.length)])) = mem8 Cl M0 n (letr8 n q (key8 c) k) := by
      rw [m1]; exact mem8_lts (q := { q with ds := q.ds ++ [K8 q (key8 c) k] }) h.dl hds2 (key8 c, sh8 n q (key8 c) k, q.ds.length)
    have hc : (decide (V.int (srt10 c (t : Nat)) = V.int 6) || (q.lt.map (lt8D (B8 M0 n) n)).isEmpty) = true := by
      rw [Bool.or_eq_true]
      rcases g3 with g3 | g3
      · exact .inl (decide_eq_true (by rw [g3]))
      · exact .inr (by rw [g3]; rfl)
    refine exs_cons (S1 := [some (.res M0.length), some (.tup [.res (B8 M0 n + (2 * n + 1)), .res (B8 M0 n)]), some (.tup [.res (B8 M0 n + (2 * n + 2)), .res (B8 M0 n + (2 * n + 3))]), some (dInt c), some (dInt (t : Nat)), some (.v (.bl few)), some (.res (B8 M0 n + (2 * n + 2))), some (.res (B8 M0 n + (2 * n + 3))), some (.res (B8 M0 n)), some (dInt (n : Nat)), some (dInt (k : Nat)), some (.v (.str (kk (key8 c)))), some (dInt (pick8 c (t : Nat))), some (dInt (srt10 c (t : Nat))), none, none, none]) (M1 := mem8 Cl M0 n (letr8 n q (key8 c) k)) (sd_ifF (td_lt (ed_var 13) ed_int) (decide_eq_false g1) (sds_one (sd_ifF (td_lt (ed_var 13) ed_int) (decide_eq_false g2) (sds_one (sd_ifT (td_w (wd_or (td_eq (ed_var 13) ed_int) fun _ => wd_or1 (td_eqNil hA (ed_var 7) (ed_lst ad_nil) (lvR hlt) lvL))) hc (sds_one ?_)))))) ⟨_, .is rfl, sds_one (sd_ret (ed_tup (ad_cons (ed_var 10) (ad_cons (ed_var 11) ad_nil))))⟩
    rw [← ml]
    exact sd_expr (ed_append (ed_var 7) (ED.is (d' := lt8D (B8 M0 n) n (key8 c, sh8 n q (key8 c) k, q.ds.length)) (ed_tup (ad_cons (ed_var 11) (ad_cons (ED.is (d' := letD (kk (key8 c)) (sh8 n q (key8 c) k)) (ed_meth ULet r2 (ed_var 0) (ad_cons (ed_var 10) (ad_cons (ed_var 11) ad_nil)) at0.own rfl ⟨M0.length, k, _, n, _, _, _, kk (key8 c), at0, rfl, rfl⟩) rfl) (ad_cons (ed_copyD (kvs := keysK (K8 q (key8 c) k)) (ed_dgetX (key := [.inl ((k : Nat) : Int), .inr (kk (key8 c))]) hA1 (ed_var 8) (ED.is (ed_tup (ad_cons (ed_var 10) (ad_cons (ed_var 11) ad_nil))) (kt _)) hkn0 (kn8D_val kn1) (fun _ _ => rfl)) gk G.n_dict) ad_nil)))) (by rw [m2]; rfl)) hlt lt2 (by rw [List.length_map]; omega))
  rw [if_neg g3]
  have hne : q.lt ≠ [] := fun e => g3 (.inr e)
  have hc : (decide (V.int (srt10 c (t : Nat)) = V.int 6) || (q.lt.map (lt8D (B8 M0 n) n)).isEmpty) = false := by
    rw [Bool.or_eq_false_iff]
    refine ⟨decide_eq_false fun e => g3 (.inl (V.int.inj e)), ?_⟩
    cases e : q.lt with
    | nil => exact absurd e hne
    | cons x y => rfl
  have hxm := let8_mem hne (pick8 c (t : Nat))
  have hat := at_maps (f := lt8D (B8 M0 n) n) (p := pick8 c (t : Nat)) (d := (false, ([], []), 0)) hne
  have hat2 : atI (q.lt.map (lt8D (B8 M0 n) n)) (pick8 c (t : Nat) % ((q.lt.length : Nat) : Int)) = some (lt8D (B8 M0 n) n (let8 q (pick8 c (t : Nat)))) := hat
  have hltp : 0 < q.lt.length := List.length_pos_iff.mpr hne
  have eltn : dInt ((((q.lt.map (lt8D (B8 M0 n) n)).length : Nat)) : Int) = dInt ((q.lt.length : Nat) : Int) := by rw [List.length_map]
  generalize let8 q (pick8 c (t : Nat)) = x at hxm hat2
  obtain ⟨x1, x2, x3⟩ := h.lt x hxm
  obtain ⟨G0, y1, y2, y3⟩ := h.gs x.1
  have gx := y3 x hxm rfl
  have gxs : GoodS n x.2.1 ∧ x.2.1.2.length < 64 := ⟨gx.good (by omega), by have := gx.few; omega⟩
  obtain ⟨xn1, xn2⟩ := h.kn (b := x.1) hk
  have gs1 := y2 k hk
  refine exs_cons (S1 := [some (.res M0.length), some (.tup [.res (B8 M0 n + (2 * n + 1)), .res (B8 M0 n)]), some (.tup [.res (B8 M0 n + (2 * n + 2)), .res (B8 M0 n + (2 * n + 3))]), some (dInt c), some (dInt (t : Nat)), some (.v (.bl few)), some (.res (B8 M0 n + (2 * n + 2))), some (.res (B8 M0 n + (2 * n + 3))), some (.res (B8 M0 n)), some (dInt (n : Nat)), some (dInt (k : Nat)), some (.v (.str (kk (x.1)))), some (dInt (pick8 c (t : Nat))), some (dInt (srt10 c (t : Nat))), none, some (letD (kk x.1) x.2.1), some (setD (B8 M0 n) n x.2.2)]) (M1 := mem8 Cl M0 n (take8 n q k x)) (sd_ifF (td_lt (ed_var 13) ed_int) (decide_eq_false g1) (sds_one (sd_ifF (td_lt (ed_var 13) ed_int) (decide_eq_false g2) (sds_one (sd_ifF (td_w (wd_or (td_eq (ed_var 13) ed_int) fun _ => wd_or1 (td_eqNil hA (ed_var 7) (ed_lst ad_nil) (lvR hlt) lvL))) hc ?_))))) ⟨_, .is rfl, sds_one (sd_ret (ed_tup (ad_cons (ed_var 10) (ad_cons (ed_var 11) ad_nil))))⟩
  refine sds_cons (sd_asg (d := lt8D (B8 M0 n) n x) (ed_ixR (ed_var 7) (ed_mod (ed_var 12) (ED.is (ed_len_res (ed_var 7) hlt G.n_len) eltn) (by omega)) hlt hat2) (gd_tup (gsd_cons (gd_name 11 nd) (gsd_cons (gd_name 15 nd) (gsd_cons (gd_name 16 nd) gsd_nil))) rfl)) ?_
  refine sds_cons (sd_expr (ed_call UA r3 (ad_cons (ed_var 0) (ad_cons (ed_var 10) (ad_cons (ed_var 11) ad_nil))) ⟨M0.length, k, _, n, _, _, _, kk x.1, at0, (gd _).1, hdl, rfl, rfl⟩)) ?_
  have bdl : ({ q with dc := q.dc.set k (putS (q.dc.getD k []) (kk x.1) (metShelf (sh8 n q x.1 k) x.2.1.1 x.2.1.2)) } : Q8).dc.length = n := by show (q.dc.set _ _).length = n; rw [List.length_set]; exact h.dl
  refine sds_cons (S1 := [some (.res M0.length), some (.tup [.res (B8 M0 n + (2 * n + 1)), .res (B8 M0 n)]), some (.tup [.res (B8 M0 n + (2 * n + 2)), .res (B8 M0 n + (2 * n + 3))]), some (dInt c), some (dInt (t : Nat)), some (.v (.bl few)), some (.res (B8 M0 n + (2 * n + 2))), some (.res (B8 M0 n + (2 * n + 3))), some (.res (B8 M0 n)), some (dInt (n : Nat)), some (dInt (k : Nat)), some (.v (.str (kk (x.1)))), some (dInt (pick8 c (t : Nat))), some (dInt (srt10 c (t : Nat))), none, some (letD (kk x.1) x.2.1), some (setD (B8 M0 n) n x.2.2)]) (M1 := mem8 Cl M0 n { q with dc := q.dc.set k (putS (q.dc.getD k []) (kk x.1) (metShelf (sh8 n q x.1 k) x.2.1.1 x.2.1.2)) }) ?_ (sds_one ?_)
  · rw [← mem8_dc h.dl hk]
    exact sd_expr (ed_meth UTake r4 (ed_var 0) (ad_cons (ed_var 10) (ad_cons (ed_var 15) ad_nil)) at0.own rfl ⟨M0.length, k, _, n, _, _, _, kk x.1, x.2.1, at0, (gd _).1, gxs.1, hn9, gs1.nd, (gd _).2, gxs.2, hdl, rfl, rfl⟩)
  · obtain ⟨t1, t2⟩ := mem8_new (Cl := Cl) (M0 := M0) (q := { q with dc := q.dc.set k (putS (q.dc.getD k []) (kk x.1) (metShelf (sh8 n q x.1 k) x.2.1.1 x.2.1.2)) }) bdl hds (unionN (K8 q x.1 k) (W8 q x.2.2))
    have mk := mem8_kns (Cl := Cl) (M0 := M0) (q := { q with dc := q.dc.set k (putS (q.dc.getD k []) (kk x.1) (metShelf (sh8 n q x.1 k) x.2.1.1 x.2.1.2)), ds := q.ds ++ [unionN (K8 q x.1 k) (W8 q x.2.2)] }) bdl (q.kn.set (kid x.1 k) q.ds.length)
    have hkp2 := kn8D_put (i := 0) (B := B8 M0 n) (n := n) (kn := q.kn) (b := x.1) (k := k) (by rw [h.kl]; exact kid_lt hk) q.ds.length
    rw [← hkp2] at mk
    have hkn2 := mem8_kn (Cl := Cl) (M0 := M0) (q := { q with dc := q.dc.set k (putS (q.dc.getD k []) (kk x.1) (metShelf (sh8 n q x.1 k) x.2.1.1 x.2.1.2)), ds := q.ds ++ [unionN (K8 q x.1 k) (W8 q x.2.2)] }) bdl
    have gk2 := mem8_set (Cl := Cl) (M0 := M0) (q := { q with dc := q.dc.set k (putS (q.dc.getD k []) (kk x.1) (metShelf (sh8 n q x.1 k) x.2.1.1 x.2.1.2)) }) bdl hds xn2
    have gx2 := mem8_set (Cl := Cl) (M0 := M0) (q := { q with dc := q.dc.set k (putS (q.dc.getD k []) (kk x.1) (metShelf (sh8 n q x.1 k) x.2.1.1 x.2.1.2)) }) bdl hds x1
    have hknq := mem8_kn (Cl := Cl) (M0 := M0) (q := { q with dc := q.dc.set k (putS (q.dc.getD k []) (kk x.1) (metShelf (sh8 n q x.1 k) x.2.1.1 x.2.1.2)) }) bdl
    have mk2 : (mem8 Cl M0 n { q with dc := q.dc.set k (putS (q.dc.getD k []) (kk x.1) (metShelf (sh8 n q x.1 k) x.2.1.1 x.2.1.2)) } ++ [MO.dK (keysK (unionN (K8 q x.1 k) (W8 q x.2.2)))]).set (B8 M0 n) (.dT (putD (kn8D (B8 M0 n) n q.kn) [.inl ((k : Nat) : Int), .inr (kk x.1)] (.res (mem8 Cl M0 n { q with dc := q.dc.set k (putS (q.dc.getD k []) (kk x.1) (metShelf (sh8 n q x.1 k) x.2.1.1 x.2.1.2)) }).length))) = mem8 Cl M0 n (take8 n q k x) := by
      rw [t1, t2]; exact mk
    rw [← mk2]
    exact sd_dputX (key := [.inl ((k : Nat) : Int), .inr (kk x.1)]) hA1 (ed_call UBo r1 (ad_cons (ed_dgetX (key := [.inl ((k : Nat) : Int), .inr (kk x.1)]) hA1 (ed_var 8) (ED.is (ed_tup (ad_cons (ed_var 10) (ad_cons (ed_var 11) ad_nil))) (kt _)) hknq (kn8D_val xn1) (fun _ _ => rfl)) (ad_cons (ed_var 16) ad_nil)) ⟨_, _, K8 q x.1 k, W8 q x.2.2, rfl, gk2, gx2, hlen xn2, hlen x1, rfl⟩) (ed_var 8) (ED.is (ed_tup (ad_cons (ed_var 10) (ad_cons (ed_var 11) ad_nil))) (kt _)) (by rw [t1]; exact hkn2) (by rw [kn8D_len, h.kl]; omega)
theorem sc_ce8 : FnScope ["_law_script", "_law_many"] ["_law_script", "_law_many"] (defScope (top 31)) := ⟨rfl, rfl, rfl, by decide +kernel, rfl, by decide +kernel, by decide +kernel⟩
theorem fd_ce8 (UC : FD P w K mg base 1 "_law_cell_at" 2 sCell) {f : Addr} {fd : FuncData} (F : FnP K "_law_cells" 31 f fd) (hm : mg "_law_cells" = some (.ref f)) : FD P w K mg base 2 "_law_cells" 2 sCells8 := by
  refine fd_of F hm sc_ce8 rfl (fun _ _ _ _ _ _ us hl => match us, hl with | [_, _], _ => rfl) fun A ds M r hr hl hs => ?_
  obtain ⟨s, n, rfl, hn, rfl⟩ := hs
  refine ⟨.rt (.lst (intsD (cells8 s n))) M, rfl, ?_⟩
  unfold cells8
  by_cases h : cellI s 0 / 45 % 3 = 1
  · rw [if_pos h]
    have hc := cutI_len s 2 22
    have hc2 : (cutI s 2 24).length ≤ 22 := hc
    exact sds_stop (sd_ifT (td_eq (ed_mod (ed_fdiv (ed_call UC hr (ad_cons (ed_var 0) (ad_cons ed_int ad_nil)) ⟨s, 0, rfl, by decide, rfl⟩) ed_int (cdiv (by decide) (by decide))) ed_int (by decide)) ed_int) (by rw [dec_int, h]; rfl) (sds_one (sd_ret (ED.is (ed_catL (ds2 := intsD (cutI s 2 24)) (ed_lst (ad_cons (ed_mul (ed_mul ed_int (ed_var 1) (.inl ⟨by decide, by decide⟩)) (ed_mod (ed_call UC hr (ad_cons (ed_var 0) (ad_cons ed_int ad_nil)) ⟨s, 1, rfl, by decide, rfl⟩) (ed_pow ed_int ed_int ⟨by decide, by decide, by decide⟩) (by decide)) (.inl ⟨by omega, by omega⟩)) (ad_cons ed_int (ad_cons ed_int (ad_cons ed_int (ad_cons ed_int (ad_cons ed_int (ad_cons ed_int (ad_cons ed_int ad_nil))))))))) (ED.is (ed_sliceV (ed_var 0) (.is ed_int) (.is ed_int) lvL) (congrArg D.lst (cut_ints s 2 24))) lvL lvL (by rw [intsD_len]; simp only [List.length_cons, List.length_nil]; omega)) (by unfold intsD; rw [List.map_append]; rfl)))))
  · rw [if_neg h]
    exact sds_cons (sd_ifN (td_eq (ed_mod (ed_fdiv (ed_call UC hr (ad_cons (ed_var 0) (ad_cons ed_int ad_nil)) ⟨s, 0, rfl, by decide, rfl⟩) ed_int (cdiv (by decide) (by decide))) ed_int (by decide)) ed_int) (by rw [dec_int]; exact decide_eq_false h)) (sds_one (sd_ret (ED.is (ed_sliceV (ed_var 0) (.is ed_int) (.is ed_int) lvL) (congrArg D.lst (cut_ints s 1 31)))))
end
end K08
set_option maxHeartbeats 2000000
namespace K08
open PySem PySem.Spec PyProof.Rows L2 DL KS
section
variable {P : Program} {w : World} {K : PySem.W.Frag} {mg : Str → Option Value} {base : Heap}
def NL : List Str := ["_law_script", "_law_many", "_law_few", "_law_store", "_law_known", "_law_keeper", "_law_world", "_law_heard", "_law_told_here", "_law_kept", "_law_turn", "_law_cell", "_law_spot", "_law_due_here", "_law_key", "_law_rows"]
theorem sc_law : FnScope NL ["_law_script"] (defScope (top 32)) := ⟨rfl, rfl, rfl, by decide +kernel, rfl, by decide +kernel, by decide +kernel⟩
theorem fd_law (G : Names K mg) {Cl : Addr} (UC : FD P w K mg base 1 "_law_cell_at" 2 sCell) (UB : FD P w K mg base 1 "blank" 1 sBlank0) (UDue : FD P w K mg base 1 "_law_due" 3 sDue8) (UTo : FD P w K mg base 3 "_law_told" 4 (sTold8 Cl)) (UCe : FD P w K mg base 2 "_law_cells" 2 sCells8) (UDe : FD P w K mg base 7 "_law_deed" 6 (sDeed8 Cl))
    (ULook : MDf P w K mg base 2 Cl "look" 3 (sLook Cl)) (UKeys : MDf P w K mg base 2 Cl "keys" 2 (sKeysA Cl))
    {fi : Addr} {fdi : FuncData} (GI : FnOk P w K mg base (L2.CX P w) 2 fi fdi ["self", "many"] (spD K 2 (sInit Cl))) (HB : Binds K fdi ["self", "many"] []) (MK : Mk K Cl fi) (hS : mg "Store" = some (.ref Cl))
    {f : Addr} {fd : FuncData} (F : FnP K "law" 32 f fd) : FnOk P w K mg base (L2.CX P w) 8 f fd ["_law_script"] (spD K 1 sLaw) := by
  refine fnok_ofJ F sc_law rfl fun A ds M r hr hl hs => ?_
  obtain ⟨s, rfl, rfl⟩ := hs
  have nd := sc_law.nd
  have hA : A.units + 64 < cLine := hr.units
  have hA1 : A.units + 1 < cLine := by omega
  have hA65 : A.units + 65 < cLine := by have := hr.un; omega
  have r1 : Room 1 A := hr.mono (by decide)
  have r2 : Room 2 A := hr.mono (by decide)
  have r3 : Room 3 A := hr.mono (by decide)
  have r7 : Room 7 A := hr.mono (by decide)
  have hA0 := r1
  obtain ⟨n, hn1, hn9, hn⟩ : ∃ n : Nat, 1 ≤ n ∧ n ≤ 9 ∧ atI [dInt 2, dInt 3, dInt 4, dInt (1 + cellI s 0 / 5 % 9), dInt 2] (cellI s 0 % 5) = some (dInt (n : Nat)) := by
    rcases (show cellI s 0 % 5 = 0 ∨ cellI s 0 % 5 = 1 ∨ cellI s 0 % 5 = 2 ∨ cellI s 0 % 5 = 3 ∨ cellI s 0 % 5 = 4 by omega) with h | h | h | h | h <;> rw [h]
    · exact ⟨2, by decide, by decide, rfl⟩
    · exact ⟨3, by decide, by decide, rfl⟩
    · exact ⟨4, by decide, by decide, rfl⟩
    · refine ⟨(1 + cellI s 0 / 5 % 9).toNat, by omega, by omega, ?_⟩
      rw [Int.toNat_of_nonneg (by omega)]; rfl
    · exact ⟨2, by decide, by decide, rfl⟩
  refine exs_cons (sd_set 1 (ed_ixL (ed_lst (ad_cons ed_int (ad_cons ed_int (ad_cons ed_int (ad_cons (ed_add ed_int (ed_mod (ed_fdiv (ed_call UC r1 (ad_cons (ed_var 0) (ad_cons ed_int ad_nil)) ⟨s, 0, rfl, by decide, rfl⟩) ed_int (cdiv (by decide) (by decide))) ed_int (by decide))) (ad_cons ed_int ad_nil)))))) (ed_mod (ed_call UC r1 (ad_cons (ed_var 0) (ad_cons ed_int ad_nil)) ⟨s, 0, rfl, by decide, rfl⟩) ed_int (by decide)) hn) nd) ?_
  clear hn
  obtain ⟨few, hfew⟩ : ∃ b : Bool, b = decide (V.int (cellI s 0 / 135 % 3) = V.int 1) := ⟨_, rfl⟩
  refine exs_cons (sd_set 2 (ED.is (d' := .v (.bl few)) (ed_eq (ed_mod (ed_fdiv (ed_call UC r1 (ad_cons (ed_var 0) (ad_cons ed_int ad_nil)) ⟨s, 0, rfl, by decide, rfl⟩) ed_int (cdiv (by decide) (by decide))) ed_int (by decide)) ed_int) (by rw [hfew])) nd) ?_
  clear hfew
  have hd0 : (List.replicate n ([] : Dct)).length = n := by simp
  refine exs_cons (sd_set 3 (ed_make GI HB MK hS r3 (ad_cons (ed_var 1) ad_nil) ⟨M, n, rfl, hn1, hn9, rfl, rfl⟩) nd) ?_
  rw [memS_new]
  have eB : (memS Cl M n (List.replicate n []) []).length = B8 M n := by rw [memS_len hd0]; rfl
  refine exs_cons (sd_set 4 (ED.is (d' := .res (B8 M n)) ed_dnewT (by rw [eB])) nd) ?_
  rw [memS_app]
  have e0 : ([] : Mem) ++ [MO.dT []] = st8 (B8 M n) 0 := rfl
  rw [e0]
  refine exs_forI (fun j M' => M' = memS Cl M n (List.replicate n []) (st8 (B8 M n) (2 * j))) (id_range1 (n := (n : Int)) (ad_cons (ed_var 1) ad_nil) (by omega) (by omega) G.n_range) rfl rfl (fun _ _ _ => trivial) ?turn ?rest
  case turn =>
    rintro j d M' hd rfl
    obtain ⟨hj, rfl⟩ := rngD_get hd
    rw [Int.toNat_natCast] at hj
    refine ⟨_, [5], gd_name 5 nd, ?_⟩
    have kt : ∀ b : Bool, D.tup [dInt ((j : Nat) : Int), .v (.str (kk b))] = keyT [.inl ((j : Nat) : Int), .inr (kk b)] := fun _ => rfl
    have kl : ∀ m, (kn0 (B8 M n) m).length = m := fun m => by simp [kn0]
    have ka : kn8K (2 * j) = [.inl ((j : Nat) : Int), .inr (kk false)] := by
      have := kn8K_kid false j; simpa [kid] using this
    have kb : kn8K (2 * j + 1) = [.inl ((j : Nat) : Int), .inr (kk true)] := by
      have := kn8K_kid true j; simpa [kid] using this
    have s1 := st8_step (Cl := Cl) (M0 := M) (m := 2 * j) hd0
    have s2 := st8_step (Cl := Cl) (M0 := M) (m := 2 * j + 1) hd0
    rw [ka] at s1
    rw [kb] at s2
    refine exs_cons (sd_dputX (key := [.inl ((j : Nat) : Int), .inr (kk false)]) hA1 ed_dnewK (ed_var 4) (ED.is (ed_tup (ad_cons (ed_var 5) (ad_cons ed_str ad_nil))) (kt false)) (st8_get hd0 _) (Nat.lt_of_le_of_lt (Nat.le_of_eq (kl _)) (by omega))) ?_
    rw [s1]
    refine exs_cons (sd_dputX (key := [.inl ((j : Nat) : Int), .inr (kk true)]) hA1 ed_dnewK (ed_var 4) (ED.is (ed_tup (ad_cons (ed_var 5) (ad_cons ed_str ad_nil))) (kt true)) (st8_get hd0 _) (Nat.lt_of_le_of_lt (Nat.le_of_eq (kl _)) (by omega))) ?_
    rw [s2]
    exact exs_turned rfl
  case rest =>
  rintro M' rfl
  rw [rngD_length, Int.toNat_natCast]
  have lX : (memS Cl M n (List.replicate n []) (st8 (B8 M n) (2 * n))).length = B8 M n + (2 * n + 1) := by rw [memS_len hd0, st8_len]; rfl
  have hE := st8_end (Cl := Cl) (M0 := M) (n := n)
  obtain ⟨X, hX⟩ : ∃ X, X = memS Cl M n (List.replicate n []) (st8 (B8 M n) (2 * n)) := ⟨_, rfl⟩
  rw [← hX] at lX hE
  rw [← hX]
  clear hX
  refine exs_cons (sd_set 6 (ED.is (d' := .tup [.res (B8 M n + (2 * n + 1)), .res (B8 M n)]) (ed_tup (ad_cons (ed_lstR ad_nil) (ad_cons (ed_var 4) ad_nil))) (by rw [lX])) nd) ?_
  refine exs_cons (sd_set 7 (ED.is (d' := .tup [.res (B8 M n + (2 * n + 2)), .res (B8 M n + (2 * n + 3))]) (ed_tup (ad_cons (ed_lstR ad_nil) (ad_cons (ed_lstR ad_nil) ad_nil))) (by simp only [List.length_append, lX]; rfl)) nd) ?_
  refine exs_cons (sd_set 8 (ED.is (d' := .res (B8 M n + (2 * n + 4))) (ed_lstR ad_nil) (by simp only [List.length_append, lX]; rfl)) nd) ?_
  refine exs_cons (sd_set 9 (ED.is (d' := .res (B8 M n + (2 * n + 5))) (ed_lstR ad_nil) (by simp only [List.length_append, lX]; rfl)) nd) ?_
  have e5 : X ++ [MO.lst []] ++ [MO.lst []] ++ [MO.lst []] ++ [MO.lst []] ++ [MO.lst []] = mem8 Cl M n (q08 n) := by rw [← hE]; simp
  rw [e5]
  clear hE e5 lX
  have hcl := cells8_len s n
  refine exs_forI (fun i M' => ∃ q, M' = mem8 Cl M n q ∧ Ok8 n i q ∧ q.tl.length = i) (id_enum (ad_cons (ed_call UCe r2 (ad_cons (ed_var 0) (ad_cons (ed_var 1) ad_nil)) ⟨s, n, rfl, hn9, rfl⟩) ad_nil) G.n_enumerate) rfl ⟨q08 n, rfl, q08_ok n, rfl⟩ (fun _ _ _ => trivial) ?turn2 ?rest2
  case turn2 =>
    rintro i d M' hd ⟨q, rfl, ok, htl⟩
    obtain ⟨c, hc, rfl⟩ := enum_at hd
    have hi : i < 30 := Nat.lt_of_lt_of_le (List.getElem?_eq_some_iff.mp hc).1 hcl
    refine ⟨_, [10, 11], gd_tup (gsd_cons (gd_name 10 nd) (gsd_cons (gd_name 11 nd) gsd_nil)) rfl, ?_⟩
    refine exs_cons (sd_set 12 (ed_call UDe r7 (ad_cons (ed_var 3) (ad_cons (ed_var 6) (ad_cons (ed_var 7) (ad_cons (ed_var 11) (ad_cons (ed_var 10) (ad_cons (ed_var 2) ad_nil)))))) ⟨M, n, i, q, few, c, rfl, ok, hn1, hn9, by omega, rfl, rfl⟩) nd) ?_
    have ok2 := deed8_ok ok hn1 few c (i : Nat)
    have htl2 : (deed8 n q few c (i : Nat)).2.tl.length = i := by rw [deed8_tl]; exact htl
    generalize deed8 n q few c (i : Nat) = y at ok2 htl2
    obtain ⟨b, q2⟩ := y
    obtain ⟨k, hkp⟩ : ∃ k, k = kp10 n c := ⟨_, rfl⟩
    have hk : k < n := by rw [hkp]; exact (kp10_lt hn1 c).1
    rw [← hkp]
    clear hkp
    have ok2 : Ok8 n (i + 1) q2 := ok2
    have htl2 : q2.tl.length = i := htl2
    have at0 := mem8_at (Cl := Cl) (M0 := M) ok2.dl hk
    have gd := ok2.good8 (by omega) b hk
    have hkn := mem8_kn (Cl := Cl) (M0 := M) ok2.dl
    obtain ⟨xn1, xn2⟩ := ok2.kn (b := b) hk
    have kt : D.tup [dInt ((k : Nat) : Int), .v (.str (kk b))] = keyT [.inl ((k : Nat) : Int), .inr (kk b)] := rfl
    refine exs_cons (sd_ifN (td_not (td_val (ed_call UTo r3 (ad_cons (ed_var 3) (ad_cons (ed_ixT (ed_var 12) ed_int rfl) (ad_cons (ed_ixT (ed_var 12) ed_int rfl) (ad_cons (ed_call UDue r1 (ad_cons (ed_ixT (ed_var 6) ed_int rfl) (ad_cons (ed_dgetX (key := [.inl ((k : Nat) : Int), .inr (kk b)]) hA1 (ed_var 4) (ED.is (ed_var 12) kt) hkn (kn8D_val xn1) (fun _ _ => rfl)) (ad_cons (ed_var 1) ad_nil))) (ok2.dueS (by omega) hn9 b hk)) ad_nil)))) ⟨M.length, k, _, n, _, _, _, kk b, at0, gd.1, Nat.le_trans (Nat.le_of_lt gd.2) (by decide), hn9, rfl, rfl⟩))) rfl) ?_
    have hl1 := mem8_tl (Cl := Cl) (M0 := M) ok2.dl ok2.dsl
    have hll : (tlD q2.tl).length < 100000 := by unfold tlD; rw [List.length_map]; omega
    refine exs_cons (sd_expr (ed_append (d := .lst (intsD (valsI (sh8 n q2 b k).2))) (ed_var 8) (ed_ixT (ed_meth ULook r2 (ed_var 3) (ad_cons (ed_ixT (ed_var 12) ed_int rfl) (ad_cons (ed_ixT (ed_var 12) ed_int rfl) ad_nil)) at0.own rfl ⟨M.length, k, _, n, _, _, _, kk b, at0, gd.1, rfl, .inl rfl⟩) ed_int rfl) hl1 hl1 hll)) ?_
    obtain ⟨v, hv⟩ : ∃ v, v = valsI (sh8 n q2 b k).2 := ⟨_, rfl⟩
    rw [← hv]
    have hl3 := mem8_tl2 (Cl := Cl) (M0 := M) ok2.dl ok2.dsl (.lst (tlD q2.tl ++ [.lst (intsD v)]))
    have hl4 := mem8_tl1 (Cl := Cl) (M0 := M) ok2.dl ok2.dsl (.lst (tlD q2.tl ++ [.lst (intsD v)]))
    refine exs_cons (sd_expr (ed_append (d := .lst (intsD v)) (ed_var 9) (ed_listL (ed_ixV (i := -1) (ed_var 8) (ed_neg ed_int) (lvR hl3) (at_tl q2.tl v)) G.n_list) hl4 hl4 hll)) ?_
    rw [mem8_tls ok2.dl ok2.dsl]
    have ok3 := ok2.tell v
    have at3 := mem8_at (Cl := Cl) (M0 := M) ok3.dl hk
    have hk9 := mem8_kp (Cl := Cl) (M0 := M) ok3.dl ok3.dsl
    have hks : (sortS (((q2.dc.getD k []).filter fun p => !p.2.2.isEmpty).map (·.1))).map (fun x => D.v (.str x)) = ksD (ks8 n q2 k) := by rw [ok2.keys hk, keys_ksD]
    refine exs_cons (sd_ifN (td_ne (x := .bl (decide (b ∈ ks8 n q2 k))) (y := .bl (!decide ((sh8 n q2 b k).2 = []))) (ED.is (ed_inM hA65 (ed_ixT (ed_var 12) ed_int rfl) (ED.is (d' := .lst (ksD (ks8 n q2 k))) (ed_meth UKeys r2 (ed_var 3) (ad_cons (ed_ixT (ed_var 12) ed_int rfl) ad_nil) at3.own rfl ⟨M.length, k, _, n, _, _, _, at3, ok3.dl8 hk, rfl, rfl⟩) (congrArg D.lst hks)) (pl_kk (m := 0) b).cm (pl_ks (m := 0) (ks8 n q2 k)).cm (pl_kk (m := 0) b).shp (pl_ks (m := 0) (ks8 n q2 k)).shp) (congrArg (fun z => D.v (.bl z)) (in_ks _ b))) (ED.is (ed_neD hA (ed_ixV (i := -1) (ed_var 9) (ed_neg ed_int) (lvR hk9) (by rw [tl_snoc]; exact at_tl q2.tl v)) (ed_lst ad_nil) (pl_ints (n := 0) v).ok (plD.lst (n := 0) plD.nil).ok) (by rw [hv, ints_nil]))) ?hne) ?_
    case hne =>
      have : (b ∈ ks8 n q2 k) ↔ ¬ (sh8 n q2 b k).2 = [] := ks8_mem
      by_cases h : (sh8 n q2 b k).2 = [] <;> simp [this, h]
    exact exs_turned ⟨_, rfl, ok3, by show (q2.tl ++ [v]).length = i + 1; rw [List.length_append, htl2]; rfl⟩
  case rest2 =>
  rintro M' ⟨q, rfl, ok, htl⟩
  have hT : (cells8 s n).length ≤ 60 := by omega
  rw [enum_len] at ok htl
  obtain ⟨t, ht⟩ : ∃ t, t = (cells8 s n).length := ⟨_, rfl⟩
  rw [← ht] at ok htl hT hcl
  clear ht
  refine exs_forI (fun j M' => ∃ J, M' = mem8 Cl M n q ++ J) (id_range1 (n := (n : Int)) (ad_cons (ed_var 1) ad_nil) (by omega) (by omega) G.n_range) rfl ⟨[], by simp⟩ (fun _ _ _ => trivial) ?turn3 ?rest3
  case turn3 =>
    rintro k d M' hd ⟨J, rfl⟩
    obtain ⟨hk, rfl⟩ := rngD_get hd
    rw [Int.toNat_natCast] at hk
    refine ⟨_, [5], gd_name 5 nd, ?_⟩
    refine exs_cons (sd_set 13 (ed_lstR ad_nil) nd) ?_
    obtain ⟨MJ, hMJ⟩ : ∃ MJ, MJ = mem8 Cl M n q ++ J := ⟨_, rfl⟩
    have at0 : ∀ J2, At Cl (MJ ++ J2) M.length k (M.length + 1 + k) n (isOf M.length n) q.dc (q.dc.getD k []) := fun J2 => by
      rw [hMJ]; exact (mem8_at ok.dl hk).ext.ext
    have hkn : ∀ J2, (MJ ++ J2)[B8 M n]? = some (.dT (kn8D (B8 M n) n q.kn)) := fun J2 => by
      rw [hMJ]; exact get_ext (get_ext (mem8_kn ok.dl))
    have hdue : ∀ b J2, sDue8 [.res (B8 M n + (2 * n + 1)), setD (B8 M n) n (q.kn.getD (kid b k) 0), dInt (n : Nat)] (MJ ++ J2) (.ok (seenD (sh8 n q b k)) (MJ ++ J2)) := fun b J2 => by
      rw [hMJ]; exact sDue8_ext (sDue8_ext (ok.dueS hT hn9 b hk))
    have hks : (sortS (((q.dc.getD k []).filter fun p => !p.2.2.isEmpty).map (·.1))).map (fun x => D.v (.str x)) = ksD (ks8 n q k) := by rw [ok.keys hk, keys_ksD]
    rw [← hMJ]
    refine exs_forI (fun j M' => M' = MJ ++ [.lst (ksD (pre8 n q k j))]) (id_lst (ED.is (d' := .lst (ksD [false, true])) (ed_lst (ad_cons ed_str (ad_cons ed_str ad_nil))) rfl)) rfl rfl (fun _ _ _ => trivial) ?turn4 ?rest4
    case turn4 =>
      rintro j d M' hd rfl
      obtain ⟨b, hb, rfl⟩ : ∃ b, [false, true][j]? = some b ∧ d = .v (.str (kk b)) := by
        unfold ksD at hd
        rw [List.getElem?_map] at hd
        obtain ⟨b, hb, e⟩ := Option.map_eq_some_iff.mp hd
        exact ⟨b, hb, e.symm⟩
      refine ⟨_, [14], gd_name 14 nd, ?_⟩
      have kt : D.tup [dInt ((k : Nat) : Int), .v (.str (kk b))] = keyT [.inl ((k : Nat) : Int), .inr (kk b)] := rfl
      obtain ⟨xn1, xn2⟩ := ok.kn (b := b) hk
      have gd := ok.good8 hT b hk
      refine exs_cons (sd_set 15 (ed_call UDue r1 (ad_cons (ed_ixT (ed_var 6) ed_int rfl) (ad_cons (ed_dgetX (key := [.inl ((k : Nat) : Int), .inr (kk b)]) hA1 (ed_var 4) (ED.is (ed_tup (ad_cons (ed_var 5) (ad_cons (ed_var 14) ad_nil))) kt) (hkn _) (kn8D_val xn1) (fun _ _ => rfl)) (ad_cons (ed_var 1) ad_nil))) (hdue b _)) nd) ?_
      refine exs_cons (sd_ifN (td_not (td_val (ed_call UTo r3 (ad_cons (ed_var 3) (ad_cons (ed_var 5) (ad_cons (ed_var 14) (ad_cons (ed_var 15) ad_nil)))) ⟨M.length, k, _, n, _, _, _, kk b, at0 _, gd.1, Nat.le_trans (Nat.le_of_lt gd.2) (by decide), hn9, rfl, rfl⟩))) rfl) ?_
      by_cases hz : (sh8 n q b k).2 = []
      · refine exs_cons (sd_ifN (td_neD hA (ed_ixT (ed_var 15) ed_int rfl) (ed_lst ad_nil) (pl_ints (n := 0) (valsI (sh8 n q b k).2)).ok (plD.lst (n := 0) plD.nil).ok) (by rw [ints_nil, decide_eq_true hz]; rfl)) ?_
        exact exs_turned (by rw [pre8_no hb hz])
      · refine exs_cons (sd_ifT (td_neD hA (ed_ixT (ed_var 15) ed_int rfl) (ed_lst ad_nil) (pl_ints (n := 0) (valsI (sh8 n q b k).2)).ok (plD.lst (n := 0) plD.nil).ok) (by rw [ints_nil, decide_eq_false hz]; rfl) (sds_one (sd_expr (ed_append (ed_var 13) (ed_var 14) (get_end _ _) (get_end _ _) (by unfold ksD; rw [List.length_map]; have := pre8_len (n := n) (q := q) (k := k) j; omega))))) ?_
        rw [set_end]
        exact exs_turned (by rw [pre8_yes hb hz]; unfold ksD; rw [List.map_append]; rfl)
    case rest4 =>
    rintro M' rfl
    have epre : pre8 n q k (ksD [false, true]).length = ks8 n q k := rfl
    rw [epre]
    refine exs_cons (sd_ifN (td_neM hA (ED.is (d' := .lst (ksD (ks8 n q k))) (ed_meth UKeys r2 (ed_var 3) (ad_cons (ed_var 5) ad_nil) (at0 _).own rfl ⟨M.length, k, _, n, _, _, _, at0 _, ok.dl8 hk, rfl, rfl⟩) (congrArg D.lst hks)) (ed_var 13) (pl_ks (m := 0) _).cm (cm_pl (lvR (get_end _ _)) (pl_ks (m := 0) _)) (pl_ks (m := 0) _).shp (pl_ks (m := 0) _).shp) (by rw [(pl_ks (m := 0) (ks8 n q k)).refl]; rfl)) ?_
    exact exs_turned ⟨J ++ [.lst (ksD (ks8 n q k))], by rw [hMJ, List.append_assoc]⟩
  case rest3 =>
  rintro M' ⟨J, rfl⟩
  have h8 := get_ext (J := J) (mem8_tl (Cl := Cl) (M0 := M) ok.dl ok.dsl)
  have h9 := get_ext (J := J) (mem8_kp (Cl := Cl) (M0 := M) ok.dl ok.dsl)
  refine ⟨.rt (.v (.bl true)) (mem8 Cl M n q ++ J), ?_, sds_one (sd_ret (ED.is (ed_eqM hA (ed_var 8) (ed_var 9) (cm_pl (lvR h8) (pl_tl q.tl)) (cm_pl (lvR h9) (pl_tl q.tl)) (pl_tl q.tl).shp (pl_tl q.tl).shp) (by rw [(pl_tl q.tl).refl])))⟩
  unfold mem8
  rw [memS_app]
  unfold memS
  exact fit_tt
end
end K08
set_option maxHeartbeats 0
namespace K08
open PySem PySem.Spec PyProof.Rows L2 DL KS
def dd (x : Str) (i : Nat) : He.DefD := ⟨(x, none), x, x, defArgs (top i), defBody (top i), defScope (top i), [], []⟩
def dm (x : Str) (q : Str) (j : Nat) : He.DefD := ⟨("Store", some x), x, q, defArgs (mth 19 j), defBody (mth 19 j), defScope (mth 19 j), [], []⟩
def fn : List He.DefD := [dd "_refuse_unlike" 11, dd "joined" 9, dd "has_seen" 10, dd "_unseen" 16, dd "dropped" 14, dd "_with_number" 17, dd "put_on" 13, dd "met" 15, dd "blank" 8, dd "_is_mark" 20, dd "_law_cell_at" 22, dd "_law_value" 23, dd "_law_both" 24, dd "_law_due" 26, dd "_law_looked" 25, dd "_law_asked" 29, dd "_law_told" 27, dd "_law_changed" 28, dd "_law_cells" 31, dd "_law_deed" 30, dd "law" 32, dm "_refuse_no_keeper" "Store._refuse_no_keeper" 8, dm "_refuse_bad_mark" "Store._refuse_bad_mark" 9, dm "_shelf" "Store._shelf" 7, dm "look" "Store.look" 1, dm "put" "Store.put" 2, dm "drop" "Store.drop" 3, dm "letter" "Store.letter" 4, dm "take" "Store.take" 5, dm "keys" "Store.keys" 6, dm "__init__" "Store.__init__" 0]
def fa : List He.Fa := [.free "len", .free "max", .free "tuple", .free "list", .free "int", .free "bool", .free "zip", .free "range", .free "isinstance", .free "sorted", .free "type", .free "all", .free "set", .free "enumerate", .free "dict", .int "FEWEST_KEEPERS" 1, .int "MOST_KEEPERS" 9, .cls "Store", .mkr "Store", .noat "Store" "_blank", .noat "Store" "_shelves", .glo "Store", .meth "Store" "_refuse_no_keeper", .meth "Store" "_refuse_bad_mark", .meth "Store" "_shelf", .meth "Store" "look", .meth "Store" "put", .meth "Store" "drop", .meth "Store" "letter", .meth "Store" "take", .meth "Store" "keys", .glo "_refuse_unlike", .glo "joined", .glo "has_seen", .glo "_unseen", .glo "dropped", .glo "_with_number", .glo "put_on", .glo "met", .glo "blank", .glo "_is_mark", .glo "_law_cell_at", .glo "_law_value", .glo "_law_both", .glo "_law_due", .glo "_law_looked", .glo "_law_asked", .glo "_law_told", .glo "_law_changed", .glo "_law_cells", .glo "_law_deed", .glo "law"]
abbrev R : PySem.W.OpenRow := PySem.W.OpenLaw.row PySem.Challenge.rw_siblingshelf_k08_whole_just_the_unseen
def ex : PySem.W.Frag → Bool := fun _ => true
abbrev hk : PySem.W.Hook := He.hookX 4 fa fn [] [] ex
def ob (s : PySem.W.SharedT) : He.AlX := He.obsX 4 fa fn [] [] ex (HandSHeadRun.getT s)
theorem ob_eq (s : PySem.W.SharedT) : ob s = hk.obs s.abs := He.obsX_eq (HandSHeadRun.getT_eq s)
abbrev loose : List Str := ["ShelfError", "BadCount", "NoKeeper", "BadMark", "FEWEST_KEEPERS", "MOST_KEEPERS", "Store", "_refuse_unlike", "joined", "has_seen", "_unseen", "dropped", "_with_number", "put_on", "met", "blank", "_is_mark", "_law_cell_at", "_law_value", "_law_both", "_law_due", "_law_looked", "_law_asked", "_law_told", "_law_changed", "_law_cells", "_law_deed"]
theorem run (w : World) : HandSHeadRun.RunEq R (PySem.W.view R.prog [32]) hk ob 3000 loose w := by
  intro os
  kernel_rfl
theorem facts {w : World} {K : PySem.W.Frag} {h : Heap} {mg : Str → Option Value} (X : K.In h) (G : h.Ns mainGlobals mg) (c : He.SaysX fa fn [] [] ex w h K) :
    ∃ fd : FuncData, (∀ (s : Shared) (v : Value), BindsTo s fd ⟨[v], []⟩ [("_law_script", v)]) ∧ ∀ (P : Program) (base : Heap), FnOk P w K mg base (L2.CX P w) 8 (He.ga K "law") fd ["_law_script"] (spD K 1 sLaw) := by
  have cd := c.t.d
  have N : Names K mg := ⟨He.free_ok X G (cd.fact 0 (f := .free "len") rfl), He.free_ok X G (cd.fact 1 (f := .free "max") rfl), He.free_ok X G (cd.fact 2 (f := .free "tuple") rfl), He.free_ok X G (cd.fact 3 (f := .free "list") rfl), He.free_ok X G (cd.fact 4 (f := .free "int") rfl), He.free_ok X G (cd.fact 5 (f := .free "bool") rfl), He.free_ok X G (cd.fact 6 (f := .free "zip") rfl), He.free_ok X G (cd.fact 7 (f := .free "range") rfl), He.free_ok X G (cd.fact 8 (f := .free "isinstance") rfl), He.free_ok X G (cd.fact 9 (f := .free "sorted") rfl), He.free_ok X G (cd.fact 10 (f := .free "type") rfl), He.free_ok X G (cd.fact 11 (f := .free "all") rfl), He.free_ok X G (cd.fact 12 (f := .free "set") rfl), He.free_ok X G (cd.fact 13 (f := .free "enumerate") rfl), He.free_ok X G (cd.fact 14 (f := .free "dict") rfl), He.int_ok X G (cd.fact 15 (f := .int "FEWEST_KEEPERS" 1) rfl), He.int_ok X G (cd.fact 16 (f := .int "MOST_KEEPERS" 9) rfl)⟩
  obtain ⟨_, F0⟩ := cd.def_ 0 (d := dd "_refuse_unlike" 11) rfl
  obtain ⟨_, F1⟩ := cd.def_ 1 (d := dd "joined" 9) rfl
  obtain ⟨_, F2⟩ := cd.def_ 2 (d := dd "has_seen" 10) rfl
  obtain ⟨_, F3⟩ := cd.def_ 3 (d := dd "_unseen" 16) rfl
  obtain ⟨_, F4⟩ := cd.def_ 4 (d := dd "dropped" 14) rfl
  obtain ⟨_, F5⟩ := cd.def_ 5 (d := dd "_with_number" 17) rfl
  obtain ⟨_, F6⟩ := cd.def_ 6 (d := dd "put_on" 13) rfl
  obtain ⟨_, F7⟩ := cd.def_ 7 (d := dd "met" 15) rfl
  obtain ⟨_, F8⟩ := cd.def_ 8 (d := dd "blank" 8) rfl
  obtain ⟨_, F9⟩ := cd.def_ 9 (d := dd "_is_mark" 20) rfl
  obtain ⟨_, F10⟩ := cd.def_ 10 (d := dd "_law_cell_at" 22) rfl
  obtain ⟨_, F11⟩ := cd.def_ 11 (d := dd "_law_value" 23) rfl
  obtain ⟨_, F12⟩ := cd.def_ 12 (d := dd "_law_both" 24) rfl
  obtain ⟨_, F13⟩ := cd.def_ 13 (d := dd "_law_due" 26) rfl
  obtain ⟨_, F14⟩ := cd.def_ 14 (d := dd "_law_looked" 25) rfl
  obtain ⟨_, F15⟩ := cd.def_ 15 (d := dd "_law_asked" 29) rfl
  obtain ⟨_, F16⟩ := cd.def_ 16 (d := dd "_law_told" 27) rfl
  obtain ⟨_, F17⟩ := cd.def_ 17 (d := dd "_law_changed" 28) rfl
  obtain ⟨_, F18⟩ := cd.def_ 18 (d := dd "_law_cells" 31) rfl
  obtain ⟨_, F19⟩ := cd.def_ 19 (d := dd "_law_deed" 30) rfl
  obtain ⟨fd, F20⟩ := cd.def_ 20 (d := dd "law" 32) rfl
  obtain ⟨_, FM0⟩ := cd.def_ 21 (d := dm "_refuse_no_keeper" "Store._refuse_no_keeper" 8) rfl
  obtain ⟨_, FM1⟩ := cd.def_ 22 (d := dm "_refuse_bad_mark" "Store._refuse_bad_mark" 9) rfl
  obtain ⟨_, FM2⟩ := cd.def_ 23 (d := dm "_shelf" "Store._shelf" 7) rfl
  obtain ⟨_, FM3⟩ := cd.def_ 24 (d := dm "look" "Store.look" 1) rfl
  obtain ⟨_, FM4⟩ := cd.def_ 25 (d := dm "put" "Store.put" 2) rfl
  obtain ⟨_, FM5⟩ := cd.def_ 26 (d := dm "drop" "Store.drop" 3) rfl
  obtain ⟨_, FM6⟩ := cd.def_ 27 (d := dm "letter" "Store.letter" 4) rfl
  obtain ⟨_, FM7⟩ := cd.def_ 28 (d := dm "take" "Store.take" 5) rfl
  obtain ⟨_, FM8⟩ := cd.def_ 29 (d := dm "keys" "Store.keys" 6) rfl
  obtain ⟨_, FM9⟩ := cd.def_ 30 (d := dm "__init__" "Store.__init__" 0) rfl
  have Z : StC K mg (He.ga K "Store") := ⟨He.cls_ok (cd.fact 17 (f := .cls "Store") rfl), He.noat_ok (cd.fact 19 (f := .noat "Store" "_blank") rfl), He.noat_ok (cd.fact 20 (f := .noat "Store" "_shelves") rfl)⟩
  have MK := He.mkr_ok (cd.fact 18 (f := .mkr "Store") rfl)
  have hS := He.glo_ok X G (cd.fact 21 (f := .glo "Store") rfl)
  have HM0 := He.meth_ok (cd.fact 22 (f := .meth "Store" "_refuse_no_keeper") rfl)
  have HM1 := He.meth_ok (cd.fact 23 (f := .meth "Store" "_refuse_bad_mark") rfl)
  have HM2 := He.meth_ok (cd.fact 24 (f := .meth "Store" "_shelf") rfl)
  have HM3 := He.meth_ok (cd.fact 25 (f := .meth "Store" "look") rfl)
  have HM4 := He.meth_ok (cd.fact 26 (f := .meth "Store" "put") rfl)
  have HM5 := He.meth_ok (cd.fact 27 (f := .meth "Store" "drop") rfl)
  have HM6 := He.meth_ok (cd.fact 28 (f := .meth "Store" "letter") rfl)
  have HM7 := He.meth_ok (cd.fact 29 (f := .meth "Store" "take") rfl)
  have HM8 := He.meth_ok (cd.fact 30 (f := .meth "Store" "keys") rfl)
  refine ⟨fd, fun s v => FunD.bindsA (ps := ["_law_script"]) F20 (fun _ _ _ _ _ _ us hl => match us, hl with | [_], _ => rfl) s [v] rfl, fun P base => ?_⟩
  have UU := (fd_unl N F0 (He.glo_ok X G (cd.fact 31 (f := .glo "_refuse_unlike") rfl)) : FD P w K mg base 1 "_refuse_unlike" 2 _)
  have UJ := fd_join N UU F1 (He.glo_ok X G (cd.fact 32 (f := .glo "joined") rfl))
  have USe := (fd_seen F2 (He.glo_ok X G (cd.fact 33 (f := .glo "has_seen") rfl)) : FD P w K mg base 1 "has_seen" 3 _)
  have UUn := fd_uns USe F3 (He.glo_ok X G (cd.fact 34 (f := .glo "_unseen") rfl))
  have UUnF := fd_unsF USe F3 (He.glo_ok X G (cd.fact 34 (f := .glo "_unseen") rfl))
  have UD := fd_drop UJ UUn F4 (He.glo_ok X G (cd.fact 35 (f := .glo "dropped") rfl))
  have UDF := fd_dropF UJ UUnF F4 (He.glo_ok X G (cd.fact 35 (f := .glo "dropped") rfl))
  have UW := (fd_wn F5 (He.glo_ok X G (cd.fact 36 (f := .glo "_with_number") rfl)) : FD P w K mg base 1 "_with_number" 3 _)
  have UP := fd_put N UD UW F6 (He.glo_ok X G (cd.fact 37 (f := .glo "put_on") rfl))
  have UMet := fd_met N UJ UUnF F7 (He.glo_ok X G (cd.fact 38 (f := .glo "met") rfl))
  have UB := (fd_blank N F8 (He.glo_ok X G (cd.fact 39 (f := .glo "blank") rfl)) : FD P w K mg base 1 "blank" 1 _)
  have UI := (fd_ism N F9 (He.glo_ok X G (cd.fact 40 (f := .glo "_is_mark") rfl)) : FD P w K mg base 1 "_is_mark" 2 _)
  have UC := (fd_cell N F10 (He.glo_ok X G (cd.fact 41 (f := .glo "_law_cell_at") rfl)) : FD P w K mg base 1 "_law_cell_at" 2 _)
  have UV := (fd_v8 F11 (He.glo_ok X G (cd.fact 42 (f := .glo "_law_value") rfl)) : FD P w K mg base 1 "_law_value" 2 _)
  have UBo := (fd_b8 N F12 (He.glo_ok X G (cd.fact 43 (f := .glo "_law_both") rfl)) : FD P w K mg base 1 "_law_both" 2 _)
  have UDue := (fd_d8 N F13 (He.glo_ok X G (cd.fact 44 (f := .glo "_law_due") rfl)) : FD P w K mg base 1 "_law_due" 3 _)
  have URn := (md_rnk N Z FM0 HM0 : MDf P w K mg base 1 _ "_refuse_no_keeper" 2 _)
  have URb := md_rbm N Z UI FM1 HM1
  have UShf := (md_shf Z FM2 HM2 : MDf P w K mg base 1 _ "_shelf" 3 _)
  have ULook := md_look Z URn UShf FM3 HM3
  have UPut := md_put Z URn URb UShf UP FM4 HM4
  have UDrop := md_drop Z URn URb UShf UDF FM5 HM5
  have ULet := md_let N Z URn UShf FM6 HM6
  have UTake := md_take N Z URn UShf UMet FM7 HM7
  have UKeys := md_keysA N Z URn FM8 HM8
  have GI := fn_init N Z UB FM9
  have HB : Binds K _ ["self", "many"] [] := FM9.bindsN (fun _ _ _ _ _ _ us hl => match us, hl with | [_, _], _ => rfl)
  have UL := fd_l8 (Cl := He.ga K "Store") N UB UBo F14 (He.glo_ok X G (cd.fact 45 (f := .glo "_law_looked") rfl))
  have UA := fd_a8 ULook UKeys ULet F15 (He.glo_ok X G (cd.fact 46 (f := .glo "_law_asked") rfl))
  have UTo := fd_t8 N ULook F16 (He.glo_ok X G (cd.fact 47 (f := .glo "_law_told") rfl))
  have UCh := fd_c8 N UPut UDrop UBo F17 (He.glo_ok X G (cd.fact 48 (f := .glo "_law_changed") rfl))
  have UCe := fd_ce8 UC F18 (He.glo_ok X G (cd.fact 49 (f := .glo "_law_cells") rfl))
  have UDe := fd_de8 N UV UA UL UCh UBo ULook ULet UTake F19 (He.glo_ok X G (cd.fact 50 (f := .glo "_law_deed") rfl))
  exact fd_law N UC UB UDue UTo UCe UDe ULook UKeys GI HB MK hS F20
end K08
open PySem PySem.W PySem.Calls PyProof.Rows
theorem PySem.Challenge.cw_siblingshelf_k08_whole_just_the_unseen_holds : PySem.Challenge.rw_siblingshelf_k08_whole_just_the_unseen.Holds := by
  w_on; o_law
  refine HandSHeadRun.head_any (r := OpenLaw.row PySem.Challenge.rw_siblingshelf_k08_whole_just_the_unseen) (q := view (OpenLaw.row PySem.Challenge.rw_siblingshelf_k08_whole_just_the_unseen).prog [32]) (H := K08.hk) (ob := K08.ob) (M := 3000)
    (loose := K08.loose) (d := HandSHeadRun.topDef (OpenLaw.row PySem.Challenge.rw_siblingshelf_k08_whole_just_the_unseen).prog 32) (kwd := []) K08.ob_eq
    (by kernel_rfl) (fun s => by kernel_rfl) K08.run (by kernel_rfl) (by kernel_rfl) (by kernel_rfl) (by rfl) (by first | assumption | decide +kernel) (by decide +kernel) ⟨rfl, rfl, rfl, rfl, rfl, by decide +kernel⟩ ?hw ?hc
  case hw => w_witness2
  case hc =>
    refine L2.walk_ofE (l := PySem.Challenge.rw_siblingshelf_k08_whole_just_the_unseen) (n := 63) (k := 8) (x := "_law_script") (CX := L2.CX0) rfl (by decide) (by kernel_rfl) ⟨rfl, by decide, by decide⟩ ?F (fun _ _ _ _ z => z)
    intro w mg fa h Y G hmg0
    obtain ⟨K, KX, c⟩ := Y
    have hmg : mg ("law" : PySem.Str) = some (.ref fa) := by
      have e : (HandSHeadRun.topDef (OpenLaw.row PySem.Challenge.rw_siblingshelf_k08_whole_just_the_unseen).prog 32).name = ("law" : PySem.Str) := by kernel_rfl
      rw [← e]
      exact hmg0
    have e := hmg.symm.trans (He.glo_ok KX G (c.t.d.fact 51 (f := .glo "law") rfl))
    cases e
    obtain ⟨fd, hb, hF⟩ := K08.facts KX G c
    exact ⟨K, fd, fun vs H Q _ => DL.spD K 1 KS.sLaw vs H Q L2.E0, KX, hb, fun H a ns hl _ hS => DL.law_entry hS ⟨[], ns, rfl, rfl⟩, fun base _ _ => DL.FnOk.to0 (hF _ base)⟩
